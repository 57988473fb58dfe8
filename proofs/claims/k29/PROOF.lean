import PyProof.Rows.All
import Wide.All
import OpenK.AllK
import Wide.FinOn
import HandS.Base
import HandS.Call
import HandS.List
import HandS.Comp
import HandS.Iter
import HandS.Ends
import HandS.Words
import HandS.WordsList
import HandS.IsInst
import HandS.Wide
import HandS.Style
import HandS.ClsMeth
import HandS.Defaults
import HandS.MakeKwOnly
import HandS.SlotsOwn
import HandS.Dict
import HandS.Gcd
import HandS.Exc
import HandS.ExcOwn
import HandS.TryOnly
import HandS.TryMany
import HandS.ExcField
import HandS.WordsExc
import KE.KExcInit
import HandS.SetFor
import HandS.Strs
import HandS.SetKeys
import HandS.DictComp
import HandS.Small
import HandS.Flow
import HandS.More
import HandS.Deep
import HandS.Conv
import KE.KMathGC
import KE.GoesMore
import KE.KTupSum
import HandS.Lambda
import HandS.EndTab
import HandS.HeadWalk
import KE.KNestM
import KE.DataMinMax
import KE.DatumOrd
import HandS.SortKw
import KE.SortKeyHeap
import KE.SortData
import HandS.TupSets
import HandS.TupAny
import PySem.Challenge.RW_tellontree_k29_whole_names_and_plans
set_option Elab.async false
set_option linter.all false
set_option maxRecDepth 100000
namespace My
open PySem L2
def top (i : Nat) : Stmt := PySem.Challenge.pw_tellontree_k29_whole_names_and_plans.main.body.getD i (.Pass ⟨0, 0, 0, 0⟩)
abbrev s_is_integer : Stmt := top 17
theorem sc_is_integer : FnScope ["thing"] ["thing"] (defScope s_is_integer) := ⟨rfl, rfl, rfl, by decide +kernel, rfl, by decide +kernel, by decide +kernel⟩
abbrev s_is_between : Stmt := top 18
theorem sc_is_between : FnScope ["thing", "low", "high"] ["thing", "low", "high"] (defScope s_is_between) := ⟨rfl, rfl, rfl, by decide +kernel, rfl, by decide +kernel, by decide +kernel⟩
abbrev s_check_turns : Stmt := top 19
theorem sc_check_turns : FnScope ["turns"] ["turns"] (defScope s_check_turns) := ⟨rfl, rfl, rfl, by decide +kernel, rfl, by decide +kernel, by decide +kernel⟩
abbrev s_check_roots : Stmt := top 20
theorem sc_check_roots : FnScope ["roots", "before", "at", "root"] ["roots"] (defScope s_check_roots) := ⟨rfl, rfl, rfl, by decide +kernel, rfl, by decide +kernel, by decide +kernel⟩
abbrev s_check_count : Stmt := top 21
theorem sc_check_count : FnScope ["count", "low", "high"] ["count", "low", "high"] (defScope s_check_count) := ⟨rfl, rfl, rfl, by decide +kernel, rfl, by decide +kernel, by decide +kernel⟩
abbrev s_wrong_in_name : Stmt := top 22
theorem sc_wrong_in_name : FnScope ["thing", "turns", "roots", "greatest", "at", "item"] ["thing", "turns", "roots"] (defScope s_wrong_in_name) := ⟨rfl, rfl, rfl, by decide +kernel, rfl, by decide +kernel, by decide +kernel⟩
abbrev s_check_name : Stmt := top 23
theorem sc_check_name : FnScope ["thing", "turns", "roots", "at"] ["thing", "turns", "roots"] (defScope s_check_name) := ⟨rfl, rfl, rfl, by decide +kernel, rfl, by decide +kernel, by decide +kernel⟩
abbrev s_refuse : Stmt := top 27
theorem sc_refuse : FnScope ["wrong", "why", "at"] ["wrong"] (defScope s_refuse) := ⟨rfl, rfl, rfl, by decide +kernel, rfl, by decide +kernel, by decide +kernel⟩
abbrev s_is_row : Stmt := top 28
theorem sc_is_row : FnScope ["thing", "parts", "item"] ["thing", "parts"] (defScope s_is_row) := ⟨rfl, rfl, rfl, by decide +kernel, rfl, by decide +kernel, by decide +kernel⟩
abbrev s_form_fault : Stmt := top 29
theorem sc_form_fault : FnScope ["thing", "most", "parts", "at", "row"] ["thing", "most", "parts"] (defScope s_form_fault) := ⟨rfl, rfl, rfl, by decide +kernel, rfl, by decide +kernel, by decide +kernel⟩
abbrev s_hand_fault : Stmt := top 30
theorem sc_hand_fault : FnScope ["n", "pairs", "first_sender", "first_receiver", "at", "sender", "receiver"] ["n", "pairs", "first_sender", "first_receiver"] (defScope s_hand_fault) := ⟨rfl, rfl, rfl, by decide +kernel, rfl, by decide +kernel, by decide +kernel⟩
abbrev s_again_fault : Stmt := top 31
theorem sc_again_fault : FnScope ["keys", "taken", "seen", "at", "key"] ["keys", "taken"] (defScope s_again_fault) := ⟨rfl, rfl, rfl, by decide +kernel, rfl, by decide +kernel, by decide +kernel⟩
abbrev s_nobody_fault : Stmt := top 32
theorem sc_nobody_fault : FnScope ["wanted", "keys", "found", "key"] ["wanted", "keys"] (defScope s_nobody_fault) := ⟨rfl, rfl, rfl, by decide +kernel, rfl, by decide +kernel, by decide +kernel⟩
abbrev s_early_fault : Stmt := top 33
theorem sc_early_fault : FnScope ["told", "roots", "letter", "known", "_", "receiver", "start", "at", "sender", "root"] ["told", "roots", "letter"] (defScope s_early_fault) := ⟨rfl, rfl, rfl, by decide +kernel, rfl, by decide +kernel, by decide +kernel⟩
abbrev s_telling_fault : Stmt := top 34
theorem sc_telling_fault : FnScope ["told", "roots", "wanted", "letter", "receivers", "_", "receiver"] ["told", "roots", "wanted", "letter"] (defScope s_telling_fault) := ⟨rfl, rfl, rfl, by decide +kernel, rfl, by decide +kernel, by decide +kernel⟩
abbrev s_is_near : Stmt := top 35
theorem sc_is_near : FnScope ["times", "hand", "time", "width", "slot", "near", "other"] ["times", "hand", "time", "width"] (defScope s_is_near) := ⟨rfl, rfl, rfl, by decide +kernel, rfl, by decide +kernel, by decide +kernel⟩
abbrev s_near_fault : Stmt := top 36
theorem sc_near_fault : FnScope ["why", "marks", "width", "times", "at", "row", "hand", "time"] ["why", "marks", "width"] (defScope s_near_fault) := ⟨rfl, rfl, rfl, by decide +kernel, rfl, by decide +kernel, by decide +kernel⟩
abbrev s_Tree_init : Stmt := inClass (top 40) 0
theorem sc_Tree_init : FnScope ["self", "machine", "turns", "roots", "k"] ["self", "machine", "turns", "roots"] (defScope s_Tree_init) := ⟨rfl, rfl, rfl, by decide +kernel, rfl, by decide +kernel, by decide +kernel⟩
abbrev s_time_of : Stmt := top 42
theorem sc_time_of : FnScope ["tree", "name"] ["tree", "name"] (defScope s_time_of) := ⟨rfl, rfl, rfl, by decide +kernel, rfl, by decide +kernel, by decide +kernel⟩
abbrev s_is_name : Stmt := top 43
theorem sc_is_name : FnScope ["thing", "turns", "roots"] ["thing", "turns", "roots"] (defScope s_is_name) := ⟨rfl, rfl, rfl, by decide +kernel, rfl, by decide +kernel, by decide +kernel⟩
abbrev s_known_at : Stmt := top 44
theorem sc_known_at : FnScope ["machine", "name", "turns", "roots", "tree"] ["machine", "name", "turns", "roots"] (defScope s_known_at) := ⟨rfl, rfl, rfl, by decide +kernel, rfl, by decide +kernel, by decide +kernel⟩
abbrev s_row_fault : Stmt := top 46
theorem sc_row_fault : FnScope ["n", "thing", "row"] ["n", "thing"] (defScope s_row_fault) := ⟨rfl, rfl, rfl, by decide +kernel, rfl, by decide +kernel, by decide +kernel⟩
abbrev s_fault : Stmt := top 47
theorem sc_fault : FnScope ["machine", "n", "thing", "sender", "_", "start"] ["machine", "n", "thing"] (defScope s_fault) := ⟨rfl, rfl, rfl, by decide +kernel, rfl, by decide +kernel, by decide +kernel⟩
abbrev s_by_start : Stmt := top 48
theorem sc_by_start : FnScope ["rows"] ["rows"] (defScope s_by_start) := ⟨rfl, rfl, rfl, by decide +kernel, rfl, by decide +kernel, by decide +kernel⟩
abbrev s_with_starts : Stmt := top 49
theorem sc_with_starts : FnScope ["rows", "starts", "sender", "receiver", "_"] ["rows", "starts"] (defScope s_with_starts) := ⟨rfl, rfl, rfl, by decide +kernel, rfl, by decide +kernel, by decide +kernel⟩
abbrev s_start_of : Stmt := top 50
theorem sc_start_of : FnScope ["machine", "name"] ["machine", "name"] (defScope s_start_of) := ⟨rfl, rfl, rfl, by decide +kernel, rfl, by decide +kernel, by decide +kernel⟩
abbrev s_names_of : Stmt := top 51
theorem sc_names_of : FnScope ["machine", "n", "plan", "names", "many", "sender", "receiver", "_"] ["machine", "n", "plan"] (defScope s_names_of) := ⟨rfl, rfl, rfl, by decide +kernel, rfl, by decide +kernel, by decide +kernel⟩
abbrev s_earliest : Stmt := top 52
theorem sc_earliest : FnScope ["machine", "n", "plan", "names", "name"] ["machine", "n", "plan"] (defScope s_earliest) := ⟨rfl, rfl, rfl, by decide +kernel, rfl, by decide +kernel, by decide +kernel⟩
abbrev s_check_names : Stmt := top 53
theorem sc_check_names : FnScope ["names", "seen", "at", "name"] ["names"] (defScope s_check_names) := ⟨rfl, rfl, rfl, by decide +kernel, rfl, by decide +kernel, by decide +kernel⟩
abbrev s_plan_of : Stmt := top 54
theorem sc_plan_of : FnScope ["machine", "names", "hands", "hand", "name"] ["machine", "names"] (defScope s_plan_of) := ⟨rfl, rfl, rfl, by decide +kernel, rfl, by decide +kernel, by decide +kernel⟩
abbrev s_Machine_init : Stmt := inClass (top 57) 0
theorem sc_Machine_init : FnScope ["self", "o", "l", "g"] ["self", "o", "l", "g"] (defScope s_Machine_init) := ⟨rfl, rfl, rfl, by decide +kernel, rfl, by decide +kernel, by decide +kernel⟩
abbrev s__law_source : Stmt := top 59
theorem sc__law_source : FnScope ["_law_script", "_law_cell"] ["_law_script"] (defScope s__law_source) := ⟨rfl, rfl, rfl, by decide +kernel, rfl, by decide +kernel, by decide +kernel⟩
abbrev s__law_draw : Stmt := top 60
theorem sc__law_draw : FnScope ["_law_source_here", "_law_limit", "_law_cell", "_law_digit", "_law_one", "_law_two", "_law_three"] ["_law_source_here", "_law_limit"] (defScope s__law_draw) := ⟨rfl, rfl, rfl, by decide +kernel, rfl, by decide +kernel, by decide +kernel⟩
abbrev s__law_big : Stmt := top 61
theorem sc__law_big : FnScope ["_law_source_here", "_law_limit", "_law_number", "_law_k"] ["_law_source_here", "_law_limit"] (defScope s__law_big) := ⟨rfl, rfl, rfl, by decide +kernel, rfl, by decide +kernel, by decide +kernel⟩
abbrev s__law_numbers : Stmt := top 62
theorem sc__law_numbers : FnScope ["_law_source_here", "_law_kind", "_law_tops", "_law_o", "_law_l", "_law_g"] ["_law_source_here"] (defScope s__law_numbers) := ⟨rfl, rfl, rfl, by decide +kernel, rfl, by decide +kernel, by decide +kernel⟩
abbrev s__law_times : Stmt := top 63
theorem sc__law_times : FnScope ["_law_numbers_here"] ["_law_numbers_here"] (defScope s__law_times) := ⟨rfl, rfl, rfl, by decide +kernel, rfl, by decide +kernel, by decide +kernel⟩
abbrev s__law_is : Stmt := top 64
theorem sc__law_is : FnScope ["_law_thing", "_law_due"] ["_law_thing", "_law_due"] (defScope s__law_is) := ⟨rfl, rfl, rfl, by decide +kernel, rfl, by decide +kernel, by decide +kernel⟩
abbrev s__law_same_names : Stmt := top 65
theorem sc__law_same_names : FnScope ["_law_thing", "_law_due", "_law_k", "_law_at"] ["_law_thing", "_law_due"] (defScope s__law_same_names) := ⟨rfl, rfl, rfl, by decide +kernel, rfl, by decide +kernel, by decide +kernel⟩
abbrev s__law_plan : Stmt := top 66
theorem sc__law_plan : FnScope ["_law_source_here", "_law_letter", "_law_gap", "_law_n", "_law_most", "_law_rest", "_law_told", "_law_sent", "_law_free", "_law_rows", "_law_shape", "_law_calm", "_law_k", "_law_hand", "_law_able", "_law_sender", "_law_wait", "_law_start", "_law_other"] ["_law_source_here", "_law_letter", "_law_gap", "_law_n", "_law_most"] (defScope s__law_plan) := ⟨rfl, rfl, rfl, by decide +kernel, rfl, by decide +kernel, by decide +kernel⟩
abbrev s__law_same_rows : Stmt := top 67
theorem sc__law_same_rows : FnScope ["_law_thing", "_law_due", "_law_k", "_law_at"] ["_law_thing", "_law_due"] (defScope s__law_same_rows) := ⟨rfl, rfl, rfl, by decide +kernel, rfl, by decide +kernel, by decide +kernel⟩
abbrev s__law_called : Stmt := top 68
theorem sc__law_called : FnScope ["_law_n", "_law_rows", "_law_names", "_law_sent", "_law_start", "_law_sender", "_law_receiver", "_law_hand", "_law_row"] ["_law_n", "_law_rows"] (defScope s__law_called) := ⟨rfl, rfl, rfl, by decide +kernel, rfl, by decide +kernel, by decide +kernel⟩
abbrev s_law : Stmt := top 69
theorem sc_law : FnScope ["_law_script", "_law_source_here", "_law_numbers_here", "_law_letter", "_law_gap", "_law_machine", "_law_k", "_law_n", "_law_rows", "_law_names", "_law_due", "_law_hand", "_law_name", "_law_passed", "_law_plan_here", "_law_early", "_law_mixed", "_law_row"] ["_law_script"] (defScope s_law) := ⟨rfl, rfl, rfl, by decide +kernel, rfl, by decide +kernel, by decide +kernel⟩
/-! ### core: rules that the layer lacks, what a draw's source is -/
section
variable {X : Cx}
/-- xs[i], read ahead of xs[i] op= e -/
theorem gt_list : PGet X (rIxL X.K) := by
  intro pins s σ H x y v u Q I rx ry h
  obtain ⟨p, xs, i, z, rfl, rfl, hq, he, q⟩ := h
  cases rx
  obtain ⟨t, rfl⟩ := ry
  obtain ⟨its, r, pl, hz⟩ := I.list hq
  obtain ⟨j, h1, h2, h3, h4, h5⟩ := atI_get he
  obtain ⟨w, ew, rw'⟩ := r.get h2
  have hl := r.length
  have hn := line63
  have fin : EP X pins σ Q w s := ⟨z, H, I, rw', q⟩
  by_cases h0 : 0 ≤ i
  · have hj : i.toNat = j := by
      rw [seqIndex_of h0 h5] at h1
      exact Option.some.inj h1
    exact PySem.wpAny_getItem_list pl.isList h0 (by omega) (by rw [hj]; simpa using ew) fin
  · have hj : (i + (its.toArray.size : Int)).toNat = j := by
      rw [seqIndex_neg (by omega) h4] at h1
      rw [List.size_toArray, ← hl]
      exact Option.some.inj h1
    exact PySem.wpAny_getItem_list_neg pl.isList (by omega) (by rw [List.size_toArray] <;> omega) (by omega) (by rw [hj]; simpa using ew) fin
end
theorem pe_powN {X : Cx} {i j z : Int} {p q pos : Pos} {k l : Nat} (hc : CPow i j) (h : i ^ j.toNat = z) : PE X (.BinOp (.Constant (.int i) k p) .Pow (.Constant (.int j) l q) pos) (tC (.int z)) :=
  ⟨fun pins s σ H Q I g => (pe_op op_pow pe_int pe_int).run pins s σ H Q I ⟨i, j, rfl, rfl, hc, by show Q (.int (i ^ j.toNat)) H; rw [h]; exact g⟩⟩
theorem ite_tt {c A B : Prop} [Decidable c] (hc : c) (h : A) : if decide c = true then A else B := by
  rw [if_pos (decide_eq_true hc)]
  exact h
theorem ite_ff {c A B : Prop} [Decidable c] (hc : ¬ c) (h : B) : if decide c = true then A else B := by
  rw [if_neg (by rw [decide_eq_false hc]; exact Bool.false_ne_true)]
  exact h
theorem ite_d {c A B : Prop} [Decidable c] (h1 : c → A) (h2 : ¬ c → B) : if decide c = true then A else B := by
  by_cases hc : c
  · exact ite_tt hc (h1 hc)
  · exact ite_ff hc (h2 hc)
theorem ite_b {b : Bool} {A B : Prop} (h1 : b = true → A) (h2 : b = false → B) : if b = true then A else B := by
  cases b with
  | true => exact iteT (h1 rfl)
  | false => exact iteF (h2 rfl)
/-! ### readings, turn by turn -/
/-- a new object -/
def NewAt (n : Nat) (o : HO) (H : Hp) (Q : VK) : Prop := n ≤ sizeLine ∧ ∀ p, H p = none → Q (.ref p) (upd H p o)
/-! ### what stays, where tables of code objects may grow -/
/-- the tables of code objects, each with the name that its code objects bear -/
class Tn where
  t : List (Addr × Str)
variable [Tn]
def nt : HO → Bool
  | .tbl _ => false
  | _ => true
def flat : HO → Bool
  | .tbl _ => false
  | .ext _ => false
  | _ => true
class Nt (o : HO) : Prop where
  f : nt o = true
instance {xs} : Nt (.lst xs) := ⟨rfl⟩
instance {xs} : Nt (.tup xs) := ⟨rfl⟩
instance {xs} : Nt (.dK xs) := ⟨rfl⟩
instance {xs} : Nt (.dT xs) := ⟨rfl⟩
instance {S n} : Nt (.set S n) := ⟨rfl⟩
instance {C d f} : Nt (.ins C d f) := ⟨rfl⟩
instance {x} : Nt (.own x) := ⟨rfl⟩
instance {x} : Nt (.xd x) := ⟨rfl⟩
instance {f x} : Nt (.met f x) := ⟨rfl⟩
instance {f x} : Nt (.rng f x) := ⟨rfl⟩
instance {f x} : Nt (.frz f x) := ⟨rfl⟩
instance {φ} : Nt (.ext φ) := ⟨rfl⟩
instance {c : Addr} {q : Str} : Nt (LamX.CodeO c q) := ⟨rfl⟩
class Flat (o : HO) : Prop where
  f : flat o = true
instance {xs} : Flat (.lst xs) := ⟨rfl⟩
instance {xs} : Flat (.tup xs) := ⟨rfl⟩
instance {xs} : Flat (.dK xs) := ⟨rfl⟩
instance {xs} : Flat (.dT xs) := ⟨rfl⟩
instance {S n} : Flat (.set S n) := ⟨rfl⟩
instance {C d f} : Flat (.ins C d f) := ⟨rfl⟩
instance {x} : Flat (.own x) := ⟨rfl⟩
instance {x} : Flat (.xd x) := ⟨rfl⟩
theorem nt_flat {o : HO} (h : flat o = true) : nt o = true := by cases o <;> first | rfl | cases h
abbrev TbsOk (H : Hp) : Prop := LamX.Tabs Tn.t H
/-- all that was tracked is as it was; tables may have grown -/
structure Same (H H' : Hp) : Prop where
  at_ : ∀ b o, H b = some o → (hn : nt o = true) → H' b = some o
  tb : ∀ b ps, H b = some (.tbl ps) → ∃ ps', H' b = some (.tbl ps')
  ts : TbsOk H → TbsOk H'
theorem Same.app {H H' : Hp} (s : Same H H') : ∀ b o, H b = some o → [Nt o] → H' b = some o := fun b o h n => s.at_ b o h n.f
instance {H H' : Hp} : CoeFun (Same H H') (fun _ => ∀ b o, H b = some o → [Nt o] → H' b = some o) := ⟨@Same.app _ _ _⟩
theorem nt_tbl {H : Hp} {b : Addr} {o : HO} (h : H b = some o) : nt o = true ∨ ∃ ps, H b = some (.tbl ps) := by
  cases o with
  | tbl ps => exact .inr ⟨ps, h⟩
  | _ => exact .inl rfl
theorem tabs_of {H H' : Hp} (k : ∀ b o, H b = some o → H' b = some o) (h : TbsOk H) : TbsOk H' := h.ext k
theorem Same.of {H H' : Hp} (k : ∀ b o, H b = some o → H' b = some o) : Same H H' := ⟨fun b o h _ => k b o h, fun b ps h => ⟨ps, k b _ h⟩, tabs_of k⟩
theorem Same.refl (H : Hp) : Same H H := .of fun _ _ h => h
theorem Same.trans {H H1 H2 : Hp} (a : Same H H1) (b : Same H1 H2) : Same H H2 :=
  ⟨fun c o h n => b.at_ c o (a.at_ c o h n) n, fun c ps h => let ⟨p1, h1⟩ := a.tb c ps h; b.tb c p1 h1, fun h => b.ts (a.ts h)⟩
theorem Same.new {H : Hp} {p : Addr} {o : HO} (h : H p = none) : Same H (upd H p o) := .of fun b u e => by rw [upd_ne (ne_of_none e h)]; exact e
theorem Same.at {H H' : Hp} {b : Addr} {o : HO} [hn : Nt o] (s : Same H H') (h : H b = some o) : H' b = some o := s.at_ b o h hn.f
theorem Same.some {H H' : Hp} {b : Addr} {o : HO} (s : Same H H') (h : H b = Option.some o) : ∃ u, H' b = Option.some u := by
  rcases nt_tbl h with z | ⟨ps, z⟩
  · exact ⟨o, s.at_ b o h z⟩
  · exact let ⟨p1, h1⟩ := s.tb b ps z; ⟨_, h1⟩
theorem Same.free {H H' : Hp} (e : Same H H') {l : Addr} (h : H' l = Option.none) : H l = Option.none := by
  cases q : H l with
  | none => rfl
  | some o =>
    obtain ⟨u, z⟩ := e.some q
    rw [h] at z
    cases z
theorem Same.seq {K : PySem.W.Frag} {H H' : Hp} {a : Addr} {xs : List V} (e : Same H H') (h : SqL K H a xs) : SqL K H' a xs := by
  rcases h with (h | ⟨o, h⟩) | h
  · exact .inl (.inl (e _ _ h))
  · exact .inl (.inr ⟨o, e _ _ h⟩)
  · exact .inr h
/-- all but what stands at p is as it was; tables may have grown -/
structure But (p : Addr) (H H' : Hp) : Prop where
  at_ : ∀ b o, H b = some o → b ≠ p → (hn : nt o = true) → H' b = some o
  tb : ∀ b ps, H b = some (.tbl ps) → b ≠ p → ∃ ps', H' b = some (.tbl ps')
  me : ∀ o, H p = some o → flat o = true → ∃ o', H' p = some o' ∧ flat o' = true
  ts : ∀ o, H p = some o → flat o = true → TbsOk H → TbsOk H'
theorem But.app {p : Addr} {H H' : Hp} (s : But p H H') : ∀ b o, H b = some o → b ≠ p → [Nt o] → H' b = some o := fun b o h n m => s.at_ b o h n m.f
instance {p : Addr} {H H' : Hp} : CoeFun (But p H H') (fun _ => ∀ b o, H b = some o → b ≠ p → [Nt o] → H' b = some o) := ⟨@But.app _ _ _ _⟩
theorem But.of_same {p : Addr} {H H' : Hp} (h : Same H H') : But p H H' := ⟨fun b o e _ n => h.at_ b o e n, fun b ps e _ => h.tb b ps e, fun o e f => ⟨o, h.at_ p o e (nt_flat f), f⟩, fun _ _ _ => h.ts⟩
theorem But.refl (p : Addr) (H : Hp) : But p H H := But.of_same (Same.refl H)
theorem But.trans {p : Addr} {H H1 H2 : Hp} (a : But p H H1) (b : But p H1 H2) : But p H H2 :=
  ⟨fun c o h n m => b.at_ c o (a.at_ c o h n m) n m, fun c ps h n => let ⟨p1, h1⟩ := a.tb c ps h n; b.tb c p1 h1 n, fun o h f => let ⟨o1, h1, f1⟩ := a.me o h f; b.me o1 h1 f1,
    fun o h f t => let ⟨o1, h1, f1⟩ := a.me o h f; b.ts o1 h1 f1 (a.ts o h f t)⟩
theorem tabs_upd {H : Hp} {p : Addr} {o u : HO} (h : H p = some u) (f : flat u = true) (t : TbsOk H) : TbsOk (upd H p o) := fun q hq => by
  obtain ⟨ps, h1, h2, h3⟩ := t q hq
  have n1 : q.1 ≠ p := fun z => by rw [z, h] at h1; cases h1; cases f
  refine ⟨ps, by rw [upd_ne n1]; exact h1, h2, fun pos cv hc => ?_⟩
  obtain ⟨c, e, hco⟩ := h3 pos cv hc
  have n2 : c ≠ p := fun z => by rw [z, h] at hco; cases hco; cases f
  exact ⟨c, e, by rw [upd_ne n2]; exact hco⟩
theorem But.upd {p : Addr} {H : Hp} {o : HO} [hf : Flat o] : But p H (upd H p o) :=
  ⟨fun b u h n _ => by rw [upd_ne n]; exact h, fun b ps h n => ⟨ps, by rw [upd_ne n]; exact h⟩, fun _ _ _ => ⟨o, upd_same, hf.f⟩, fun _ h f t => tabs_upd h f t⟩
theorem But.at {p b : Addr} {H H' : Hp} {o : HO} [hn : Nt o] (s : But p H H') (n : b ≠ p) (h : H b = some o) : H' b = some o := s.at_ b o h n hn.f
theorem But.new {p q : Addr} {H : Hp} {o : HO} (h : H q = none) : But p H (L2.upd H q o) := But.of_same (Same.new h)
theorem But.some {p b : Addr} {H H' : Hp} {o : HO} (s : But p H H') (h : H b = Option.some o) (n : b ≠ p) : ∃ u, H' b = Option.some u := by
  rcases nt_tbl h with z | ⟨ps, z⟩
  · exact ⟨o, s.at_ b o h n z⟩
  · exact let ⟨p1, h1⟩ := s.tb b ps z n; ⟨_, h1⟩
/-- behind the making of an instance -/
theorem Same.made {H H1 : Hp} {x dx C : Addr} (nx : H x = Option.none) (nd : H dx = Option.none) (k : But x (L2.upd (L2.upd H dx (.own x)) x (.ins C dx [])) H1) : Same H H1 := by
  have hne : ∀ b o, H b = Option.some o → (L2.upd (L2.upd H dx (.own x)) x (.ins C dx [])) b = Option.some o := fun b o e => by
    rw [upd_ne (ne_of_none e nx), upd_ne (ne_of_none e nd)]; exact e
  exact ⟨fun b o e n => k.at_ b o (hne b o e) (ne_of_none e nx) n, fun b ps e => k.tb b ps (hne b _ e) (ne_of_none e nx), fun t => k.ts _ upd_same rfl (tabs_of hne t)⟩
theorem Same.over {H H' : Hp} {D : Addr} {o u : HO} (s : Same H H') (n : H D = Option.none) (e : H' D = Option.some u) (hu : flat u = true := by rfl) : Same H (L2.upd H' D o) :=
  ⟨fun b v h m => (upd_ne (ne_of_none h n)).trans (s.at_ b v h m), fun b ps h => let ⟨qs, z⟩ := s.tb b ps h; ⟨qs, (upd_ne (ne_of_none h n)).trans z⟩, fun t => tabs_upd e hu (s.ts t)⟩
theorem Same.made0 {H : Hp} {x dx C : Addr} (nx : H x = Option.none) (nd : H dx = Option.none) : Same H (L2.upd (L2.upd H dx (.own x)) x (.ins C dx [])) := .of fun b o e => by
  rw [upd_ne (ne_of_none e nx), upd_ne (ne_of_none e nd)]; exact e
theorem But.updOver {H H' : Hp} {x L : Addr} {o u : HO} [hu : Flat u] (b : But x H H') (n : H L = Option.none) (e : H' L = Option.some u) : But x H (L2.upd H' L o) :=
  ⟨fun c v h m z => (upd_ne (ne_of_none h n)).trans (b.at_ c v h m z), fun c ps h m => let ⟨qs, z⟩ := b.tb c ps h m; ⟨qs, (upd_ne (ne_of_none h n)).trans z⟩, fun v h f => let ⟨v', z, f'⟩ := b.me v h f; ⟨v', (upd_ne (ne_of_none h n)).trans z, f'⟩,
    fun v h f t => tabs_upd e hu.f (b.ts v h f t)⟩

theorem new_at {n : Nat} {o : HO} {H : Hp} {Q : VK} (hn : n ≤ 1000) (k : ∀ p H', H p = none → Same H H' → H' p = some o → Q (.ref p) H') : NewAt n o H Q :=
  ⟨Nat.le_trans hn (by decide), fun p hp => k p _ hp (Same.new hp) upd_same⟩
theorem new_of {o : HO} {H : Hp} {Q : VK} (k : ∀ p H', H p = none → Same H H' → H' p = some o → Q (.ref p) H') : ∀ p, H p = none → Q (.ref p) (upd H p o) := fun p hp => k p _ hp (Same.new hp) upd_same
section
variable {K : PySem.W.Frag} {σ : St} {H : Hp} {Q : VK} {ta tb tc : TE} {x y v : V} {D : Ends} {t u : TS} {QT : Bool → Hp → Prop} {QA : List V → Hp → Prop} {i j : Int} {n m : Nat}
theorem r_var (e : σ[n]? = some (some v)) (q : Q v H) : tVar n σ H Q := ⟨v, e, q⟩
theorem r_c (q : Q v H) : tC v σ H Q := q
theorem r_op {r : R2} (h : ta σ H fun x H1 => tb σ H1 fun y H2 => r x y H2 Q) : tOp r ta tb σ H Q := h
theorem r_un {r : V → Hp → VK → Prop} (h : ta σ H fun x H1 => r x H1 Q) : tUn r ta σ H Q := h
theorem r_I0 {g : Int → Int → V} (q : Q (g i j) H) : rI0 g (.int i) (.int j) H Q := ⟨i, j, rfl, rfl, q⟩
theorem r_I {C : Int → Int → Prop} {g : Int → Int → V} (c : C i j) (q : Q (g i j) H) : rI C g (.int i) (.int j) H Q := ⟨i, j, rfl, rfl, c, q⟩
theorem r_add (q : Q (.int (i + j)) H) : rAdd (.int i) (.int j) H Q := ⟨i, j, rfl, rfl, q⟩
theorem r_sub (q : Q (.int (i - j)) H) : rSub (.int i) (.int j) H Q := ⟨i, j, rfl, rfl, q⟩
theorem r_U {g : Int → V} (q : Q (g i) H) : rU g (.int i) H Q := ⟨i, rfl, q⟩
theorem r_eqI (q : Q (.bl (decide (i = j))) H) : rEq (.int i) (.int j) H Q := ⟨rfl, by
  have e : decide (V.int i = V.int j) = decide (i = j) := by
    by_cases h : i = j
    · subst h; rw [decide_eq_true rfl, decide_eq_true rfl]
    · rw [decide_eq_false h, decide_eq_false fun z => h (V.int.inj z)]
  rw [e]; exact q⟩
theorem r_neI (q : Q (.bl (!decide (i = j))) H) : rNe (.int i) (.int j) H Q := ⟨rfl, by
  have e : decide (V.int i = V.int j) = decide (i = j) := by
    by_cases h : i = j
    · subst h; rw [decide_eq_true rfl, decide_eq_true rfl]
    · rw [decide_eq_false h, decide_eq_false fun z => h (V.int.inj z)]
  rw [e]; exact q⟩
theorem r_ixL {p : Addr} {xs : List V} (h : H p = some (.lst xs)) (e : atI xs i = some v) (q : Q v H) : rIxL K (.ref p) (.int i) H Q := ⟨p, xs, i, v, rfl, rfl, SqL.of h, e, q⟩
theorem r_ixT {p : Addr} {xs : List V} (h : H p = some (.tup xs)) (e : atI xs i = some v) (q : Q v H) : rIxT K (.ref p) (.int i) H Q := ⟨p, xs, i, v, rfl, rfl, SqT.of h, e, q⟩
theorem r_test (h : ta σ H fun x H' => ∃ k, x = .bl k ∧ QT k H') : tTest ta σ H QT := h
theorem r_tB (h : ta σ H fun x H' => ∃ k, x = .bl k ∧ QT k H') : tB ta σ H QT := h
theorem r_bl {b : Bool} {R : Bool → Prop} (h : R b) : ∃ k, V.bl b = .bl k ∧ R k := ⟨b, rfl, h⟩
theorem r_not {t : TT} (h : t σ H fun c H1 => QT (!c) H1) : tNot t σ H QT := h
theorem r_and {t u : TT} (h : t σ H fun c H1 => if c = true then u σ H1 QT else QT false H1) : tAnd t u σ H QT := h
theorem r_or {t u : TT} (h : t σ H fun c H1 => if c = true then QT true H1 else u σ H1 QT) : tOr t u σ H QT := h
theorem r_notV (h : ta σ H fun x H1 => ∃ c, x = .bl c ∧ Q (.bl (!c)) H1) : tNotV ta σ H Q := h
theorem r_andV (h : ta σ H fun x H1 => ∃ c, x = .bl c ∧ if c = true then tb σ H1 Q else Q (.bl false) H1) : tAndV ta tb σ H Q := h
theorem r_orV (h : ta σ H fun x H1 => ∃ c, x = .bl c ∧ if c = true then Q (.bl true) H1 else tb σ H1 Q) : tOrV ta tb σ H Q := h
theorem r_ifE {t : TT} (h : t σ H fun c H1 => if c = true then ta σ H1 Q else tb σ H1 Q) : tIf t ta tb σ H Q := h
theorem r_seq (h : t { D with nx := u D } σ H) : tSeq t u D σ H := h
theorem r_next (h : D.nx σ H) : tNext D σ H := h
theorem r_brk (h : D.bk σ H) : tBreak D σ H := h
theorem r_cont (h : D.ct σ H) : tCont D σ H := h
theorem r_drop (h : ta σ H fun _ H1 => D.nx σ H1) : tDrop ta D σ H := h
theorem r_ret (h : ta σ H D.rt) : tRet ta D σ H := h
theorem r_ifS {c : TT} (h : c σ H fun b H1 => if b = true then t D σ H1 else u D σ H1) : tIfS c t u D σ H := h
theorem r_asg {g : TG} (h : ta σ H fun x H1 => g x σ H1 D.nx) : tAsg ta g D σ H := h
theorem r_gName {R : St → Hp → Prop} (h : R (σ.set n (some v)) H) : gName n v σ H R := h
theorem r_gSub {s : TSet} {R : St → Hp → Prop} (h : ta σ H fun o H1 => tb σ H1 fun i H2 => s o i v H2 fun H3 => R σ H3) : gSub ta tb s v σ H R := h
theorem r_setL {p : Addr} {xs : List V} {k : Nat} {R : Hp → Prop} (h : H p = some (.lst xs)) (e : ixN xs.length i = some k) (q : R (upd H p (.lst (xs.set k v)))) : rSetL (.ref p) (.int i) v H R := ⟨p, xs, i, k, rfl, rfl, h, e, q⟩
theorem r_aug {ti : TIp} (e : σ[n]? = some (some x)) (h : ta σ H fun y H1 => ti x y H1 fun z H2 => D.nx (σ.set n (some z)) H2) : tAug n ta ti D σ H := ⟨x, e, h⟩
theorem r_augS {tg : V → V → Hp → VK → Prop} {tip : TIp} {ts : TSet} (h : ta σ H fun o H1 => tb σ H1 fun i H2 => tg o i H2 fun x H3 => tc σ H3 fun y H4 => tip x y H4 fun z H5 => ts o i z H5 fun H6 => D.nx σ H6) : tAugS ta tb tc tg tip ts D σ H := h
theorem r_ip {f : Int → Int → Int} (q : Q (.int (f i j)) H) : ipI f (.int i) (.int j) H Q := ⟨i, j, rfl, rfl, q⟩
theorem r_nil (h : QA [] H) : tNil σ H QA := h
theorem r_cons {tr : TA} (h : ta σ H fun x H1 => tr σ H1 fun xs H2 => QA (x :: xs) H2) : tCons ta tr σ H QA := h
theorem r_tup {t : TA} (h : t σ H fun xs H1 => NewAt xs.length (.tup xs) H1 Q) : tTup t σ H Q := h
theorem r_lst {t : TA} (h : t σ H fun xs H1 => NewAt xs.length (.lst xs) H1 Q) : tLst t σ H Q := h
theorem r_CB {r : List V → Hp → VK → Prop} {t : TA} (h : t σ H fun vs H1 => r vs H1 Q) : tCB r t σ H Q := h
theorem r_call {sp : Sp} {dvs : List V} {E : XK} {t : TA} (h : t σ H fun vs H1 => sp (vs ++ dvs) H1 Q E) : tCall sp dvs E t σ H Q := h
theorem r_callN {k l : Nat} {sp : Sp} {gV : List V → List V → List V} {E : XK} {t tk : TA} (h : t σ H fun vs H1 => tk σ H1 fun zs H2 => vs.length = k ∧ zs.length = l ∧ sp (gV vs zs) H2 Q E) : tCallN k l sp gV E t tk σ H Q := h
theorem r_fld {p C dx : Addr} {fs : List (Str × V)} {f : Str} {R : V → Prop} (hc : Cls K C) (hn : NoAttr K C f) (hx : H p = some (.ins C dx fs)) (e : fs.lookup f = some v) (q : R v) : (∃ a C dx fs v, V.ref p = .ref a ∧ H a = some (.ins C dx fs) ∧ Cls K C ∧ NoAttr K C f ∧ fs.lookup f = some v ∧ R v) := ⟨p, C, dx, fs, v, rfl, hx, hc, hn, e, q⟩
theorem r_tFld {f : Str} (h : ta σ H fun x H1 => ∃ a C dx fs v, x = .ref a ∧ H1 a = some (.ins C dx fs) ∧ Cls K C ∧ NoAttr K C f ∧ fs.lookup f = some v ∧ Q v H1) : tFld K ta f σ H Q := h
theorem r_sl {r : V → Option Int → Option Int → Hp → VK → Prop} {tl th : TO} (h : ta σ H fun x H1 => tl σ H1 fun l H2 => th σ H2 fun u H3 => r x l u H3 Q) : tSl r ta tl th σ H Q := h
theorem r_noP {R : Option Int → Hp → Prop} (h : R none H) : tNoPart σ H R := h
theorem r_part {R : Option Int → Hp → Prop} (h : ta σ H fun x H1 => ∃ i, x = .int i ∧ R (some i) H1) : tPart ta σ H R := h
theorem r_in {R : Int → Prop} (h : R i) : ∃ k, V.int i = .int k ∧ R k := ⟨i, rfl, h⟩
theorem r_Bm {T : String} {r : V → List V → Hp → VK → Prop} {t : TA} (h : ta σ H fun x H1 => tyV K T x H1 ∧ t σ H1 fun xs H2 => r x xs H2 Q) : tBM K T r ta t σ H Q := h
theorem r_app {l : Addr} {xs : List V} (h : H l = some (.lst xs)) (hz : xs.length < sizeLine) (q : Q .non (upd H l (.lst (xs ++ [y])))) : rAppend (.ref l) [y] H Q := ⟨l, xs, y, rfl, rfl, h, hz, q⟩
end
theorem at_nat {ns : List Int} {i : Int} (h0 : 0 ≤ i) (h : i < (ns.map V.int).length) : ∃ n, atI (ns.map V.int) i = some (.int n) ∧ n ∈ ns := by
  obtain ⟨j, rfl⟩ : ∃ j : Nat, i = j := ⟨i.toNat, by omega⟩
  rw [List.length_map] at h
  have hj : j < ns.length := by omega
  exact ⟨ns[j], atI_nat (by rw [List.getElem?_map, List.getElem?_eq_getElem hj]; rfl), List.getElem_mem hj⟩
theorem fmod_nn {a b : Int} (h : 0 < b) : 0 ≤ a.fmod b := by rw [Int.fmod_eq_emod_of_nonneg a (by omega)]; exact Int.emod_nonneg a (by omega)
theorem fmod_lt {a b : Int} (h : 0 < b) : a.fmod b < b := by rw [Int.fmod_eq_emod_of_nonneg a (by omega)]; exact Int.emod_lt_of_pos a h
theorem lim_div {lim : Int} (h0 : 0 < lim) (h : lim < 2 ^ 200) : CDivW lim lim := wide_div (b := 200) h0 (by omega) (by decide) (by decide)
theorem cdiv_of {i lim : Int} (h0 : 0 < lim) (h : lim < 2 ^ 200) : CDivW i lim := ⟨h0, (lim_div h0 h).2⟩
theorem mulL {i j : Int} (h1 : -(2 ^ 64) < i) (h2 : i < 2 ^ 64) : CMul i j := Or.inl ⟨h1, h2⟩
theorem mulR {i j : Int} (h1 : -(2 ^ 64) < j) (h2 : j < 2 ^ 64) : CMul i j := Or.inr ⟨h1, h2⟩
theorem powOk {i j : Int} (h1 : 0 ≤ j) (h2 : j ≤ 1000000) (h3 : i.natAbs < 2 ^ 64) : CPow i j := ⟨h1, h2, h3⟩
theorem r_for {wi : TI} {g : TG} {tb : TS} {D : Ends} {σ : St} {H : Hp} (h : wi σ H fun J H1 => ∃ W : Nat → Nat → St → Hp → Prop, (∃ m, W 0 m σ H1) ∧ ∀ i m σ H, W i m σ H →
  (J.stop i H ∧ D.nx σ H) ∨ (J.go i H ∧ ∃ N : St → Hp → Prop, (∀ σ' H', N σ' H' → ∃ m', m' < m ∧ W (i + 1) m' σ' H') ∧ ∀ x H', J.yld i H x H' → g x σ H' fun σ2 H2 => tb { D with nx := N, ct := N, bk := D.nx } σ2 H2)) : tFor wi g tb D σ H := h
theorem r_iR1 {ta : TA} {σ : St} {H : Hp} {R : It → Hp → Prop} (h : ta σ H fun vs H1 => ∃ j : Int, vs = [.int j] ∧ -(2 ^ 62) ≤ j ∧ j < 2 ^ 62 ∧ R (Itr 0 j.toNat) H1) : iRng1 ta σ H R := h
theorem r_iR2 {ta : TA} {σ : St} {H : Hp} {R : It → Hp → Prop} (h : ta σ H fun vs H1 => ∃ i j : Int, vs = [.int i, .int j] ∧ (-(2 ^ 62) ≤ i ∧ i < 2 ^ 62 ∧ -(2 ^ 62) ≤ j ∧ j < 2 ^ 62) ∧ R (Itr i (j - i).toNat) H1) : iRng2 ta σ H R := h
theorem r_tMeth {C : Addr} {m : Str} {sp : Sp} {dvs : List V} {E : XK} {ta : TE} {t : TA} {σ : St} {H : Hp} {Q : VK} (h : ta σ H fun x H1 => ∃ a dx fs, x = .ref a ∧ H1 a = some (.ins C dx fs) ∧ fs.lookup m = none ∧ t σ H1 fun vs H2 => sp (x :: (vs ++ dvs)) H2 Q E) : tMeth C m sp dvs E ta t σ H Q := h
theorem r_meth {C p dx : Addr} {fs : List (Str × V)} {m : Str} {H : Hp} {R : Prop} (hx : H p = some (.ins C dx fs)) (hl : fs.lookup m = none) (q : R) : ∃ a dx fs, V.ref p = .ref a ∧ H a = some (.ins C dx fs) ∧ fs.lookup m = none ∧ R := ⟨p, dx, fs, rfl, hx, hl, q⟩
theorem r_iT {K : PySem.W.Frag} {tl : TE} {σ : St} {H : Hp} {R : It → Hp → Prop} (h : tl σ H fun x H1 => ∃ a, x = .ref a ∧ (∃ xs, SqT K H1 a xs) ∧ R (Itt K a) H1) : iTup K tl σ H R := h
theorem r_iL {K : PySem.W.Frag} {tl : TE} {σ : St} {H : Hp} {R : It → Hp → Prop} (h : tl σ H fun x H1 => ∃ a, x = .ref a ∧ (∃ xs, SqL K H1 a xs) ∧ R (Itl K a) H1) : iList K tl σ H R := h
theorem r_lc {wi : TI} {g : TG} {tt : TT} {te : TE} {vs : List Nat} {σ : St} {H : Hp} {Q : VK} (h : wi σ H fun J H1 => ∀ D, H1 D = none → ∃ W : Nat → Nat → Hp → Prop, (∃ m, W 0 m (upd H1 D (.lst []))) ∧ ∀ i m H, W i m H →
  (J.stop i H ∧ Q (.ref D) H) ∨ (J.go i H ∧ ∃ Nx : Hp → Prop, (∀ H', Nx H' → ∃ m', m' < m ∧ W (i + 1) m' H') ∧ ∀ x H', J.yld i H x H' → g x (wipe σ vs) H' fun σ2 H2 => wipe σ2 vs = wipe σ vs ∧ tt σ2 H2 fun b H3 =>
    if b = true then te σ2 H3 fun y H4 => ∃ acc, H4 D = some (.lst acc) ∧ acc.length < sizeLine ∧ Nx (upd H4 D (.lst (acc ++ [y]))) else Nx H3)) : tLc wi g tt te vs σ H Q := h
theorem r_isiI {K : PySem.W.Frag} {H : Hp} {Q : VK} {i : Int} {n : String} (b : Bool) (h : kitB "int" n = some b) (q : Q (.bl b) H) : rIsi K [.int i, .ty n] H Q := ⟨_, _, .type "int", .type n, b, rfl, .ty n, .base (.int i), kit_ty h, q⟩
theorem r_isiB {K : PySem.W.Frag} {H : Hp} {Q : VK} {i : Bool} {n : String} (b : Bool) (h : kitB "bool" n = some b) (q : Q (.bl b) H) : rIsi K [.bl i, .ty n] H Q := ⟨_, _, .type "bool", .type n, b, rfl, .ty n, .base (.bl i), kit_ty h, q⟩
theorem r_slL {K : PySem.W.Frag} {H : Hp} {Q : VK} {a : Addr} {xs : List V} {lo hi : Option Int} (h : SqL K H a xs) (q : ∀ p H', H p = none → Same H H' → H' p = some (.lst (cutV xs lo hi)) → Q (.ref p) H') : rSlL K (.ref a) lo hi H Q := ⟨a, xs, rfl, h, new_of q⟩
theorem r_slT {K : PySem.W.Frag} {H : Hp} {Q : VK} {a : Addr} {xs : List V} {lo hi : Option Int} (h : SqT K H a xs) (hn : ¬ (HT.sIx xs.length 0 lo = 0 ∧ HT.sIx xs.length xs.length hi = xs.length)) (q : ∀ p H', H p = none → Same H H' → H' p = some (.tup (cutV xs lo hi)) → Q (.ref p) H') : rSlT K (.ref a) lo hi H Q := ⟨a, xs, rfl, h, hn, new_of q⟩
def rListOf (K : PySem.W.Frag) : List V → Hp → VK → Prop := fun xs H Q => ∃ p ys, xs = [.ref p] ∧ (SqL K H p ys ∨ SqT K H p ys) ∧ ∀ l, H l = none → Q (.ref l) (upd H l (.lst ys))
def rTupOf (K : PySem.W.Frag) : List V → Hp → VK → Prop := fun xs H Q => ∃ p ys, xs = [.ref p] ∧ ((SqL K H p ys ∧ ∀ l, H l = none → Q (.ref l) (upd H l (.tup ys))) ∨ (SqT K H p ys ∧ Q (.ref p) H))
theorem cr_list {X : Cx} : CallR X (.type "list") (rListOf X.K) := call_list_of
theorem cr_tup {X : Cx} : CallR X (.type "tuple") (rTupOf X.K) := call_tuple_of
theorem r_listS {K : PySem.W.Frag} {H : Hp} {Q : VK} {a : Addr} {xs : List V} (h : SqL K H a xs ∨ SqT K H a xs) (q : ∀ p H', H p = none → Same H H' → H' p = some (.lst xs) → Q (.ref p) H') : rListOf K [.ref a] H Q := ⟨a, xs, rfl, h, new_of q⟩
theorem r_listL {K : PySem.W.Frag} {H : Hp} {Q : VK} {a : Addr} {xs : List V} (h : H a = some (.lst xs)) (q : ∀ p H', H p = none → Same H H' → H' p = some (.lst xs) → Q (.ref p) H') : rListOf K [.ref a] H Q := r_listS (.inl (SqL.of h)) q
theorem r_listT {K : PySem.W.Frag} {H : Hp} {Q : VK} {a : Addr} {xs : List V} (h : H a = some (.tup xs)) (q : ∀ p H', H p = none → Same H H' → H' p = some (.lst xs) → Q (.ref p) H') : rListOf K [.ref a] H Q := r_listS (.inr (SqT.of h)) q
theorem r_tupL {K : PySem.W.Frag} {H : Hp} {Q : VK} {a : Addr} {xs : List V} (h : H a = some (.lst xs)) (q : ∀ p H', H p = none → Same H H' → H' p = some (.tup xs) → Q (.ref p) H') : rTupOf K [.ref a] H Q := ⟨a, xs, rfl, .inl ⟨SqL.of h, new_of q⟩⟩
theorem r_tupT {K : PySem.W.Frag} {H : Hp} {Q : VK} {a : Addr} {xs : List V} (h : H a = some (.tup xs)) (q : Q (.ref a) H) : rTupOf K [.ref a] H Q := ⟨a, xs, rfl, .inr ⟨SqT.of h, q⟩⟩
theorem r_nF {A B : Prop} (h : A) : if (!false) = true then A else B := h
theorem r_nT {A B : Prop} (h : B) : if (!true) = true then A else B := by
  rw [if_neg (by decide)]
  exact h
theorem r_nD {c A B : Prop} [Decidable c] (h1 : ¬ c → A) (h2 : c → B) : if (!decide c) = true then A else B := by
  by_cases hc : c
  · rw [decide_eq_true hc]; exact r_nT (h2 hc)
  · rw [decide_eq_false hc]; exact r_nF (h1 hc)
theorem cut_take {xs : List V} {k : Int} (h : (xs.length : Int) ≤ k) : cutV xs none (some k) = xs := by
  have e : HT.sIx xs.length xs.length (some k) = xs.length := by
    show (if k < 0 then (k + (xs.length : Int)).toNat else min k.toNat xs.length) = xs.length
    rw [if_neg (by omega)]; omega
  unfold cutV
  rw [e]
  show (xs.drop 0).take (xs.length - 0) = xs
  simp
theorem r_yes {σ : St} {H : Hp} {R : Bool → Hp → Prop} (h : R true H) : tYes σ H R := h
theorem int_of_get {ns : List Int} {i : Nat} {y : V} (h : (ns.map V.int)[i]? = some y) : ∃ z, ns[i]? = some z ∧ y = V.int z := by
  rw [List.getElem?_map] at h
  cases e : ns[i]? with
  | none => rw [e] at h; cases h
  | some z => rw [e] at h; exact ⟨z, rfl, (Option.some.inj h).symm⟩
theorem take_more {α : Type} {l : List α} {i : Nat} {x : α} (h : l[i]? = some x) : l.take (i + 1) = l.take i ++ [x] := by
  rw [List.take_succ, h]; rfl
theorem r_chain {r r' : R2} {ta tb tc : TE} {σ : St} {H : Hp} {Q : VK} (h : ta σ H fun x H1 => tb σ H1 fun y H2 => r x y H2 fun z H3 => ∃ k, z = .bl k ∧ (if k = true then tc σ H3 fun w' H4 => r' y w' H4 Q else Q (.bl false) H3)) : tChain r r' ta tb tc σ H Q := h
theorem r_sFld {K : PySem.W.Frag} {ta tv : TE} {f : Str} {D : Ends} {σ : St} {H : Hp} (h : tv σ H fun y H1 => ta σ H1 fun x H2 => ∃ a C dx fs, x = .ref a ∧ H2 a = some (.ins C dx fs) ∧ Cls K C ∧ NoAttr K C f ∧ fs.length < 1000 ∧ D.nx σ (upd H2 a (.ins C dx (putF f y fs)))) : sFld K ta tv f D σ H := h
theorem r_put {K : PySem.W.Frag} {p C dx : Addr} {fs : List (Str × V)} {f : Str} {H : Hp} {R : Addr → Addr → Addr → List (Str × V) → Prop} (hc : Cls K C) (hn : NoAttr K C f) (hx : H p = some (.ins C dx fs)) (hl : fs.length ≤ 900) (q : R p C dx fs) :
    ∃ a C dx fs, V.ref p = .ref a ∧ H a = some (.ins C dx fs) ∧ Cls K C ∧ NoAttr K C f ∧ fs.length < 1000 ∧ R a C dx fs := ⟨p, C, dx, fs, rfl, hx, hc, hn, by omega, q⟩
theorem putF_len (f : Str) (v : V) : ∀ fs : List (Str × V), (putF f v fs).length ≤ fs.length + 1
  | [] => Nat.le_refl _
  | (g, x) :: r => by
    unfold putF
    by_cases h : g = f
    · rw [if_pos h, List.length_cons, List.length_cons]; omega
    · rw [if_neg h, List.length_cons, List.length_cons]
      have := putF_len f v r
      omega
theorem putF_le {f : Str} {v : V} {fs : List (Str × V)} {n : Nat} (h : fs.length ≤ n) : (putF f v fs).length ≤ n + 1 := Nat.le_trans (putF_len f v fs) (by omega)
def MakeAt (C : Addr) (sp : Sp) (vs : List V) (E : XK) (H : Hp) (Q : VK) : Prop := ∀ x dx, H x = none → H dx = none → dx ≠ x → sp (.ref x :: vs) (upd (upd H dx (.own x)) x (.ins C dx [])) (fun v H2 => v = .non ∧ Q (.ref x) H2) E
theorem r_make {C : Addr} {sp : Sp} {dvs : List V} {E : XK} {t : TA} {σ : St} {H : Hp} {Q : VK} (h : t σ H fun vs H1 => MakeAt C sp (vs ++ dvs) E H1 Q) : tMake C sp dvs E t σ H Q := h
def rIsNo : R2 := fun x y H Q => y = .non ∧ Q (.bl (decide (x = .non))) H
def rNotNo : R2 := fun x y H Q => y = .non ∧ Q (.bl (!decide (x = .non))) H
theorem op_isNo {X : Cx} : OpR X (compareOp .Is) rIsNo := op_isN
theorem op_notNo {X : Cx} : OpR X (compareOp .IsNot) rNotNo := op_notN
theorem r_isNn {H : Hp} {Q : VK} (q : Q (.bl true) H) : rIsNo .non .non H Q := ⟨rfl, q⟩
theorem r_isNi {H : Hp} {Q : VK} {i : Int} (q : Q (.bl false) H) : rIsNo (.int i) .non H Q := ⟨rfl, q⟩
theorem r_isNr {H : Hp} {Q : VK} {i : Addr} (q : Q (.bl false) H) : rIsNo (.ref i) .non H Q := ⟨rfl, q⟩
theorem r_notNn {H : Hp} {Q : VK} (q : Q (.bl false) H) : rNotNo .non .non H Q := ⟨rfl, q⟩
theorem r_notNi {H : Hp} {Q : VK} {i : Int} (q : Q (.bl true) H) : rNotNo (.int i) .non H Q := ⟨rfl, q⟩
theorem r_notNr {H : Hp} {Q : VK} {i : Addr} (q : Q (.bl true) H) : rNotNo (.ref i) .non H Q := ⟨rfl, q⟩
theorem r_lenS {K : PySem.W.Frag} {H : Hp} {p : Addr} {xs : List V} {R : List V → Prop} (h : SqL K H p xs ∨ SqT K H p xs) (q : R xs) : ∃ (p1 : Addr) (ys : List V), [V.ref p] = [.ref p1] ∧ (SqL K H p1 ys ∨ SqT K H p1 ys) ∧ R ys := ⟨p, xs, rfl, h, q⟩
theorem r_lenL {K : PySem.W.Frag} {H : Hp} {p : Addr} {xs : List V} {R : List V → Prop} (h : H p = some (.lst xs)) (q : R xs) : ∃ (p1 : Addr) (ys : List V), [V.ref p] = [.ref p1] ∧ (SqL K H p1 ys ∨ SqT K H p1 ys) ∧ R ys := ⟨p, xs, rfl, .inl (SqL.of h), q⟩
theorem r_lenT {K : PySem.W.Frag} {H : Hp} {p : Addr} {xs : List V} {R : List V → Prop} (h : H p = some (.tup xs)) (q : R xs) : ∃ (p1 : Addr) (ys : List V), [V.ref p] = [.ref p1] ∧ (SqL K H p1 ys ∨ SqT K H p1 ys) ∧ R ys := ⟨p, xs, rfl, .inr (SqT.of h), q⟩
theorem r_in1 {i : Int} {R : Int → Prop} (h : R i) : ∃ k, [V.int i] = [.int k] ∧ R k := ⟨i, rfl, h⟩
theorem r_in2 {i j : Int} {R : Int → Int → Prop} (h : R i j) : ∃ k l, [V.int i, V.int j] = [.int k, .int l] ∧ R k l := ⟨i, j, rfl, h⟩
/-- the source of draws at p, its cells at q -/
def SrcAt (H : Hp) (p q : Addr) : Prop := ∃ (cs : List Int) (i big cnt st : Int), H p = some (.lst [.ref q, .int i, .int big, .int cnt, .int st]) ∧ H q = some (.lst (cs.map V.int)) ∧ q ≠ p ∧ 0 ≤ i ∧ 0 ≤ big ∧ cs.length ≤ 63
theorem SrcAt.keep {H H' : Hp} {p q : Addr} (h : SrcAt H p q) (s : Same H H') : SrcAt H' p q := by
  obtain ⟨cs, i, big, cnt, st, h1, h2, h3⟩ := h
  exact ⟨cs, i, big, cnt, st, s _ _ h1, s _ _ h2, h3⟩
theorem SrcAt.upd {H : Hp} {p q x : Addr} {o : HO} (h : SrcAt H p q) (h1 : x ≠ p) (h2 : x ≠ q) : SrcAt (upd H x o) p q := by
  obtain ⟨cs, i, big, cnt, st, e1, e2, h3⟩ := h
  exact ⟨cs, i, big, cnt, st, (upd_ne h1.symm).trans e1, (upd_ne h2.symm).trans e2, h3⟩
theorem SrcAt.ne {H : Hp} {p q x : Addr} (h : SrcAt H p q) (hx : H x = none) : x ≠ p := by
  obtain ⟨cs, i, big, cnt, st, h1, _⟩ := h
  exact (ne_of_none h1 hx).symm
theorem SrcAt.neq {H : Hp} {p q x : Addr} (h : SrcAt H p q) (hx : H x = none) : x ≠ q := by
  obtain ⟨cs, i, big, cnt, st, _, h1, _⟩ := h
  exact (ne_of_none h1 hx).symm
theorem But.free {p q : Addr} {H H' : Hp} (b : But p H H') (hs : SrcAt H' p q) {x : Addr} (hx : H' x = none) : H x = none := by
  cases e : H x with
  | none => rfl
  | some o =>
    obtain ⟨u, z⟩ := b.some e (hs.ne hx)
    rw [hx] at z
    cases z
theorem seq_with {t1 t2 : TS} {D : Ends} {σ : St} {H : Hp} (P : St → Hp → Prop) (h2 : ∀ σ H, P σ H → t2 D σ H) (h1 : (∀ σ H, P σ H → t2 D σ H) → t1 { D with nx := t2 D } σ H) : tSeq t1 t2 D σ H := h1 h2
theorem pe_fldK {X : Cx} {K : PySem.W.Frag} {e : Expr} {f : Str} {pos : Pos} {ta : TE} (hK : X.K = K) (he : PE X e ta) (hb : attributeBase e f X.env (eval e X.env) = eval e X.env) : PE X (.Attribute e f pos) (tFld K ta f) := by
  subst hK; exact pe_fld he hb
theorem r_cat {H : Hp} {Q : VK} {l b : Addr} {xs zs : List V} (h1 : H l = some (.lst xs)) (h2 : H b = some (.lst zs)) (hn : xs.length + zs.length ≤ 1000) (q : ∀ p H', H p = none → Same H H' → H' p = some (.lst (xs ++ zs)) → Q (.ref p) H') : rCat (.ref l) (.ref b) H Q :=
  ⟨l, b, xs, zs, rfl, rfl, h1, h2, Nat.le_trans hn (by decide), new_of q⟩
theorem r_min {K : PySem.W.Frag} {H : Hp} {Q : VK} {l : Addr} {ns : List Int} (h1 : H l = some (.lst (ns.map V.int))) (hn : 0 < ns.length) (q : ∀ m, m ∈ ns → (∀ y, y ∈ ns → m ≤ y) → Q (.int m) H) : rMin K [.ref l] H Q :=
  ⟨l, ns, rfl, SqL.of h1, hn, q⟩
section
variable {X : Cx} {K : PySem.W.Frag}
theorem ix_listK (hK : X.K = K) : IxR X (rIxL K) := by subst hK; exact ix_list
theorem ix_tupK (hK : X.K = K) : IxR X (rIxT K) := by subst hK; exact ix_tup
theorem call_len_seqK (hK : X.K = K) : CallR X (.builtin "len") (fun xs H Q => ∃ p ys, xs = [.ref p] ∧ (SqL K H p ys ∨ SqT K H p ys) ∧ Q (.int ys.length) H) := by subst hK; exact call_len_seq
theorem call_isiK (hK : X.K = K) : CallR X (.builtin "isinstance") (rIsi K) := by subst hK; exact call_isi
theorem cr_listK (hK : X.K = K) : CallR X (.type "list") (rListOf K) := by subst hK; exact cr_list
theorem cr_tupK (hK : X.K = K) : CallR X (.type "tuple") (rTupOf K) := by subst hK; exact cr_tup
theorem pg_tupK {es : List Expr} {k n : Nat} {t : TGs} {pos : Pos} (hK : X.K = K) (hc : X.calm = true) (h : PGs X es t)
    (hn : (assignEach es X.env).length = n := by rfl) (hst : (assignEach es X.env).findIdx? (·.1) = none := by rfl) : PG X (.Tuple es k pos) (gTup K n t) := by subst hK; exact pg_tup hc h hn hst
end

theorem But.tabs {p q : Addr} {H H' : Hp} (b : But p H H') (hs : SrcAt H p q) (t : TbsOk H) : TbsOk H' := by
  obtain ⟨cs, i, big, cnt, st, h1, _⟩ := hs
  exact b.ts _ h1 rfl t
/-! ### a def whose code object is known, a lambda of one parameter handed to a def as its last argument -/
structure FunC (K : PySem.W.Frag) (x qual : Str) (st : Stmt) (f : Addr) (fd : FuncData) (c : Addr) : Prop where
  ex : ∃ (oc : Value) (od : Option Addr) (kV doc pm : Value) (an : Option Addr) (ct : Value) (osl : Array (Option Value)),
    fd = PySem.W.fnOf x qual (defArgs st) (defBody st) (defScope st) .none kV doc pm an (.ref c) ct ∧ K.lookup f = some ⟨oc, od, .func fd, osl⟩ ∧ PySem.W.codeIn K (.ref c) qual = true
  kp : PySem.W.keepIn K (.ref f) = true
theorem FunC.toFun {K : PySem.W.Frag} {x qual : Str} {st : Stmt} {f c : Addr} {fd : FuncData} (F : FunC K x qual st f fd c) : Fun K x qual st f fd :=
  let ⟨oc, od, kV, doc, pm, an, ct, osl, h1, h2, h3⟩ := F.ex; ⟨⟨oc, od, kV, doc, pm, an, .ref c, ct, osl, h1, h2, h3⟩, F.kp⟩
section
variable {P : Program} {w : World} {K : PySem.W.Frag} {mg : Str → Option Value} {base : Heap}
theorem FunC.ok {CX : CXT} {x qual : Str} {st : Stmt} {f c : Addr} {fd : FuncData} {N ps : List Str} {k : Nat} {sp : Sp} (F : FunC K x qual st f fd c) (S : FnScope N ps (defScope st)) (len : ∀ vs H Q E, sp vs H Q E → vs.length = ps.length)
    (hbody : ∀ (A : Around) (outer : List Env) (s : Shared) (H : Hp) (vs : List V) (Q : VK) (E : XK), Room k (A.deeper (PyProof.Rows.envOfC qual (defScope st) s.heap.objs.size f (.ref c))) → sp vs H Q E →
      ∃ t, PSs (cxOf CX P w K mg base N qual (defScope st) f (.ref c) A outer s H E) (defBody st) t ∧ t { nx := fun _ H' => Q .non H', rt := Q } (start N vs) H) : FnOk P w K mg base CX (k + 1) f fd ps sp := by
  obtain ⟨oc, od, kV, doc, pm, an, ct, osl, rfl, lk, hcd⟩ := F.ex
  exact fn_of lk hcd S len fun A outer s H vs Q E hr hsp => hbody A outer s H vs Q E hr hsp
theorem func_mk {x qual : Str} {st : Stmt} {f c : Addr} {oc : Value} {od an : Option Addr} {osl : Array (Option Value)} {kV doc pm ct : Value} (l : K.lookup f = some ⟨oc, od, .func (PySem.W.fnOf x qual (defArgs st) (defBody st) (defScope st) .none kV doc pm an (.ref c) ct), osl⟩)
    (h : PySem.W.codeIn K (.ref c) qual = true) (k : PySem.W.keepIn K (.ref f) = true) : FunC K x qual st f (PySem.W.fnOf x qual (defArgs st) (defBody st) (defScope st) .none kV doc pm an (.ref c) ct) c := ⟨⟨oc, od, kV, doc, pm, an, ct, osl, rfl, l, h⟩, k⟩
end
/-! ### the making of a lambda: what is new is its code object, at first, and what grows is the maker's table -/
/-- all tracked stays but what stands at P; at P a table has grown -/
structure Grown (P : Addr) (H H' : Hp) : Prop where
  at_ : ∀ b o, H b = some o → b ≠ P → H' b = some o
  tb : ∃ ps, H' P = some (.tbl ps)
theorem Grown.same [Tn] {P : Addr} {H H' : Hp} {ps : Array Value} (g : Grown P H H') (hP : H P = some (.tbl ps)) (t : TbsOk H') : Same H H' where
  at_ := fun b o h n => g.at_ b o h fun z => by rw [z, hP] at h; cases h; cases n
  tb := fun b qs h => by
    by_cases z : b = P
    · exact z ▸ g.tb
    · exact ⟨qs, g.at_ b _ h z⟩
  ts := fun _ => t
section
variable {X : Cx} {pins : List (Addr × Obj)} {σ : L2.St} {H : Hp} {s : Shared}
theorem lam_make [Tn] {c P : Addr} {params : Arguments} {body : Expr} {scope : Scope} {pos : Pos} {E Q : Value → Shared → Prop} (I : Inv X pins σ H s) (B : LamX.TabB X.base X.mg c P) (hc : X.env.code = .ref c)
    (hm : (P, X.env.qual ++ "<lambda>") ∈ Tn.t) (hu : ∀ p ∈ Tn.t, p.1 = P → p.2 = X.env.qual ++ "<lambda>") (hT : TbsOk H) (hd : defaultsOf params X.env = ([], [])) (hf : ∀ y ∈ scope.names, y.2 = .free → ∃ c, X.env.cells.lookup y.1 = some c)
    (k : ∀ (f c' : Addr) (pm ctv : Value) (H' : Hp) (s' : Shared), Inv X pins σ H' s' → Same H H' →
      s'.heap.get? f = some (PySem.W.kla_obj "<lambda>" (X.env.qual ++ "<lambda>") params body scope (cloFrom X.env.cells scope.names []) pm c' ctv) → H' f = none → f ∉ frs X.stack → H' c' = some (LamX.CodeO c' (X.env.qual ++ "<lambda>")) → Q (.ref f) s') :
    wpAny (model X.prog X.w) X.A (eval (.Lambda params body scope pos) X.env) Q E s := by
  obtain ⟨ps, tP, tOk, tA⟩ := hT _ hm
  have gP : s.heap.get? P = some { cls := .none, data := .fields ps } := I.hok P _ tP
  have bP := B.bm.keeps I.bk
  have out : ∀ f, s.heap.objs.size ≤ f → f ∉ frs X.stack := fun f le z => by
    rcases List.mem_cons.mp (I.stkSub _ z) with e | e
    · exact Nat.not_lt.mpr le (e ▸ I.lt)
    · exact I.nofs le e
  refine PySem.W.kla_eval hd ?_
  cases known : codeAmong pos ps.toList with
  | some cv =>
    obtain ⟨c', rfl, hco⟩ := tA pos cv known
    refine PySem.W.kla_makeFunctionHit (mg := X.mg) (c := c) (P := P) (ps := ps) (closure_ok hf) I.ok.glob (I.mod.glob.keeps I.bk) hc (B.code.keeps I.bk) gP tOk known bP fun ctv h' tk hk le => ?_
    exact k h'.objs.size c' _ ctv H _ (I.kept fun b o e => Heap.get?_push_of_some _ (hk b o e)) (Same.refl H) (Heap.get?_push_size _ rfl) (I.hok.fresh le) (out _ le) hco
  | none =>
    refine PySem.W.kla_makeFunction (mg := X.mg) (c := c) (P := P) (ps := ps) (closure_ok hf) I.ok.glob (I.mod.glob.keeps I.bk) hc (B.code.keeps I.bk) gP tOk known B.gP bP fun c' ctv h' tk hk le lt rec tb => ?_
    obtain ⟨c2, oc, vs, t, ec, hoc, ed, ev⟩ := rec
    cases ec
    have le' : s.heap.objs.size ≤ h'.objs.size := by omega
    have nc : H c' = none := I.hok.fresh le
    have ne : P ≠ c' := ne_of_none tP nc
    have J := LamX.inv_table (t' := tk) (more := #[rawInt pos.line, rawInt pos.col, .ref c']) (h' := h'.push (PySem.W.kla_obj "<lambda>" (X.env.qual ++ "<lambda>") params body scope (cloFrom X.env.cells scope.names []) ((X.mg "__name__").getD .none) c' ctv)) I tP
      (fun b o n e => Heap.get?_push_of_some _ (hk b o n e)) (Heap.get?_push_of_some _ tb) le ⟨oc, vs, t, Heap.get?_push_of_some _ hoc, ed, ev⟩
    have g : Grown P H (upd (upd H P (.tbl (ps ++ #[rawInt pos.line, rawInt pos.col, .ref c']))) c' (LamX.CodeO c' (X.env.qual ++ "<lambda>"))) :=
      ⟨fun b o e n => by rw [upd_ne (ne_of_none e nc), upd_ne n]; exact e, ⟨_, by rw [upd_ne ne, upd_same]⟩⟩
    have tT : TbsOk (upd (upd H P (.tbl (ps ++ #[rawInt pos.line, rawInt pos.col, .ref c']))) c' (LamX.CodeO c' (X.env.qual ++ "<lambda>"))) := fun q hq => by
      have eL : (ps ++ #[rawInt pos.line, rawInt pos.col, .ref c']).toList = ps.toList ++ [rawInt pos.line, rawInt pos.col, .ref c'] := by simp
      by_cases z : q.1 = P
      · rw [hu q hq z, z]
        refine ⟨_, by rw [upd_ne ne, upd_same], by rw [eL]; exact PySem.TriplesOk_snoc _ _ _ _ tOk, fun p' cv hcv => ?_⟩
        rw [eL] at hcv
        rcases LamX.among_app _ tOk hcv with old | new
        · obtain ⟨c0, e1, e2⟩ := tA p' cv old
          exact ⟨c0, e1, g.at_ _ _ e2 fun y => by rw [y, tP] at e2; cases e2⟩
        · exact ⟨c', new, upd_same⟩
      · obtain ⟨qs, a1, a2, a3⟩ := hT q hq
        refine ⟨qs, g.at_ _ _ a1 z, a2, fun p' cv hcv => ?_⟩
        obtain ⟨c0, e1, e2⟩ := a3 p' cv hcv
        exact ⟨c0, e1, g.at_ _ _ e2 fun y => by rw [y, tP] at e2; cases e2⟩
    have nf : h'.objs.size ≠ c' ∧ h'.objs.size ≠ P := ⟨Nat.ne_of_gt lt, Nat.ne_of_gt (Nat.lt_of_lt_of_le (Heap.lt_size gP) le')⟩
    exact k h'.objs.size c' _ ctv _ _ J (g.same tP tT) (Heap.get?_push_size _ rfl) (by rw [upd_ne nf.1, upd_ne nf.2]; exact I.hok.fresh le') (out _ le') upd_same
end
/-- one parameter t, captured names and globals -/
structure LamS1 (sc scope : Scope) (t : Str) : Prop where
  kind : scope.kind = .function
  co : scope.isCoroutine = false
  gen : scope.isGenerator = false
  nocell : ∀ y ∈ scope.names, y.2 ≠ .cell
  own : ∀ y ∈ scope.names, y.2 = .local → y.1 = t
  tl : scope.names.lookup t = some .local
  free : ∀ y ∈ scope.names, y.2 = .free → sc.names.lookup y.1 = some .cell ∨ sc.names.lookup y.1 = some .free
def lamS1B (sc scope : Scope) (t : Str) : Bool :=
  decide (scope.kind = .function) && !scope.isCoroutine && !scope.isGenerator && decide (scope.names.lookup t = some .local) && scope.names.all fun y => !decide (y.2 = .cell) && (!decide (y.2 = .local) || decide (y.1 = t)) && (!decide (y.2 = .free) || decide (sc.names.lookup y.1 = some .cell) || decide (sc.names.lookup y.1 = some .free))
theorem lamS1_by {sc scope : Scope} {t : Str} (h : lamS1B sc scope t = true) : LamS1 sc scope t := by
  unfold lamS1B at h
  simp only [Bool.and_eq_true, Bool.or_eq_true, Bool.not_eq_true', decide_eq_true_eq, decide_eq_false_iff_not, List.all_eq_true] at h
  obtain ⟨⟨⟨⟨h1, h2⟩, h3⟩, h5⟩, h4⟩ := h
  refine ⟨h1, h2, h3, fun y hy => (h4 y hy).1.1, fun y hy e => ?_, h5, fun y hy e => ?_⟩
  · rcases (h4 y hy).1.2 with z | z
    · exact absurd e z
    · exact z
  · rcases (h4 y hy).2 with (z | z) | z
    · exact absurd e z
    · exact .inl z
    · exact .inr z
theorem LamS1.has {X : Cx} {scope : Scope} {t : Str} (L : LamS1 X.env.scope scope t) (ok : X.Ok) : ∀ y ∈ scope.names, y.2 = .free → ∃ c, X.env.cells.lookup y.1 = some c := fun y hy e => by
  rcases L.free y hy e with k | k
  · exact ok.has _ (.inl k)
  · exact ok.has _ (.inr k)
/-- the context of the lambda's body: the maker's names, then t -/
def lam1Cx (X : Cx) (A : Around) (outer : List Env) (s : Shared) (H : Hp) (scope : Scope) (t : Str) (f c' : Addr) : Cx :=
  { LamX.lamCx X A outer s H C8.E0 scope f c' with N := X.N ++ [t] }
section
variable {X : Cx} {pins : List (Addr × Obj)} {σ : L2.St} {H HZ : Hp} {s s1 : Shared}
theorem lam1_start {A : Around} {outer : List Env} {scope : Scope} {t : Str} {f c' : Addr} {h₁ : Heap} {tk : Nat} {x : V} {u : Value} (I : Inv X pins σ H s) (L : LamS1 X.env.scope scope t) (nt : t ∉ X.N) (e0 : Env0 X.prog X.w X.K X.mg X.base A outer s1 HZ) (hd : A.handled = none)
    (un : Un (frs X.stack) [] H HZ s.heap s1.heap) (rx : L2.RelV x u) (hns : h₁.Ns s1.heap.objs.size fun y => ([(t, u)] : List (Str × Value)).reverse.lookup y) (kp : ∀ b o, s1.heap.get? b = some o → h₁.get? b = some o) :
    Inv (lam1Cx X A outer s1 HZ scope t f c') [] (σ ++ [some x]) HZ { s1 with heap := h₁, toks := tk } := by
  have hfree := L.has I.ok
  have cm : ∀ {y c}, (cloFrom X.env.cells scope.names []).lookup y = some c → X.env.cells.lookup y = some c := fun {y c} e => by
    rcases cloFrom_mem (PySem.mem_of_lookup e) with hm | ⟨h1, h2⟩
    · cases hm
    · obtain ⟨c1, hc⟩ := hfree _ h1 rfl
      have hc : X.env.cells.lookup y = some c1 := hc
      have e2 : c = c1 := by
        rw [h2, hc] <;> rfl
      rw [e2]
      exact hc
  have look : ∀ {y}, scope.names.lookup y = some .free → ∃ c, (cloFrom X.env.cells scope.names []).lookup y = some c := fun {y} hl => by
    have hy : (y, NameKind.free) ∈ scope.names := PySem.mem_of_lookup hl
    exact mem_lookup (cloFrom_has (cells := X.env.cells) (acc := []) hy)
  have cellK : ∀ {c : Addr} {v : Option Value}, H c = none → s.heap.IsCell c v → h₁.IsCell c v := fun {c v} n ⟨o, ho, hd⟩ => by
    obtain ⟨sl, q⟩ := un.any ho n (by simp)
    exact ⟨_, kp _ _ q, hd⟩
  have noA : ∀ b : Addr, b ∉ (lam1Cx X A outer s1 HZ scope t f c').ex := fun b z => absurd (show b ∈ ([] : List Addr) from z) (by simp)
  refine ⟨⟨e0.mod, L.kind, rfl, rfl, Nat.le_refl _, fun y z c e1 e2 => I.ok.inj y z c (cm e1) (cm e2), fun y hy => ?_, fun y c z _ => ?_, fun _ => hd, Around.frames_deeper e0.frames, .inr ⟨rfl, rfl⟩, fun b z => absurd z (noA b), e0.bs, e0.bsz, fun b _ _ => noA b,
      fun b z => absurd z (noA b), e0.funs, e0.frf⟩,
    rfl, e0.bare, Un.kept kp, ⟨_, hns, fun i y v e1 e2 e3 => ?_⟩, fun y c e => ?_, e0.hok.fresh (Nat.le_refl _), fun y c e => ?_, fun q hq => absurd (show q ∈ ([] : List (Addr × Obj)) ++ [] from hq) (by simp), e0.hok.kept kp, ?_⟩
  · have hy : scope.names.lookup y = some .cell ∨ scope.names.lookup y = some .free := hy
    rcases hy with hy | hy
    · exact absurd rfl (L.nocell _ (PySem.mem_of_lookup hy))
    · exact look hy
  · have z : false = true := z
    cases z
  · have e3 : Vis scope y := e3
    have e1 : (X.N ++ [t])[i]? = some y := e1
    have hlen : σ.length = X.N.length := I.len
    by_cases hi : i < X.N.length
    · rw [List.getElem?_append_left hi] at e1
      rw [List.getElem?_append_left (by rw [hlen]; exact hi)] at e2
      have hyN : y ∈ X.N := List.mem_iff_getElem?.mpr ⟨i, e1⟩
      rcases e3 with k | k | k
      · exact absurd hyN (by rw [show y = t from L.own _ (PySem.mem_of_lookup k) rfl]; exact nt)
      · exact absurd rfl (L.nocell _ (PySem.mem_of_lookup k))
      · obtain ⟨m, hn, hl⟩ := I.loc
        have hvis : Vis X.env.scope y := (L.free _ (PySem.mem_of_lookup k) rfl).elim (fun k => .inr (.inl k)) (fun k => .inr (.inr k))
        obtain ⟨w', r, q⟩ := hl i y v e1 e2 hvis
        obtain ⟨c2, h2⟩ := look k
        refine ⟨w', r, .inr ⟨.inr k, c2, h2, ?_⟩⟩
        have c1 := cm h2
        rcases q with ⟨k', _⟩ | ⟨_, c3, e', z⟩
        · have k' : X.env.scope.names.lookup y = some .local := k'
          rcases L.free _ (PySem.mem_of_lookup k) rfl with k2 | k2 <;> rw [show X.env.scope.names.lookup y = _ from k2] at k' <;> cases k'
        · rw [c1] at e'
          cases e'
          exact cellK (I.freeC y _ c1) z
    · have hi2 : i = X.N.length := by
        have := (List.getElem?_eq_some_iff.mp e1).1
        rw [List.length_append] at this
        have h1 : ([t] : List Str).length = 1 := rfl
        omega
      subst hi2
      rw [List.getElem?_append_right (Nat.le_refl _), Nat.sub_self] at e1
      rw [← hlen, List.getElem?_append_right (Nat.le_refl _), Nat.sub_self] at e2
      have ey : t = y := by simpa using e1
      have ev : x = v := by simpa using e2
      subst ey
      subst ev
      refine ⟨u, rx, .inl ⟨L.tl, ?_⟩⟩
      simp
  · obtain ⟨w', z⟩ := I.cell y c (cm e)
    exact ⟨w', cellK (I.freeC y c (cm e)) z⟩
  · obtain ⟨v, o, ho, hd⟩ := I.cell y c (cm e)
    exact un.free c o ho (I.freeC y c (cm e)) (by simp)
  · show (σ ++ [some x]).length = (X.N ++ [t]).length
    rw [List.length_append, List.length_append, I.len]
    rfl
/-- a(e), in the def that got the lambda -/
theorem pe_act1 {qg : Str} {Ng : List Str} {sg : Scope} {g f c' : Addr} {cdg pm ctv : Value} {params : Arguments} {body : Expr} {scope : Scope} {t : Str} {k i : Nat} {a : Str} {Eg : XK} {tb : TE} {te : TE} {e : Expr} {p1 p2 : Pos}
    (I : Inv X pins σ H s) (L : LamS1 X.env.scope scope t) (nt : t ∉ X.N) (hf : s.heap.get? f = some (PySem.W.kla_obj "<lambda>" (X.env.qual ++ "<lambda>") params body scope (cloFrom X.env.cells scope.names []) pm c' ctv)) (hfn : H f = none) (hfr : f ∉ frs X.stack)
    (hbind : ∀ u : Value, bindArgs (PySem.W.kla_fn "<lambda>" (X.env.qual ++ "<lambda>") params body scope (cloFrom X.env.cells scope.names []) pm (.ref c') ctv) ⟨[u], []⟩ = pure [(t, u)])
    (hr : Room (k + 1) (X.A.deeper (PyProof.Rows.envOfC qg sg s.heap.objs.size g cdg)))
    (hbody : ∀ (A : Around) (outer : List Env) (s : Shared) (H : Hp), Room k (A.deeper (LamX.lamEnv X scope s.heap.objs.size f c')) → PE (lam1Cx X A outer s H scope t f c') body tb)
    (he : PE (cxOf L2.CX0 X.prog X.w X.K X.mg X.base Ng qg sg g cdg X.A X.stack s H Eg).nox e te)
    (hN : Ng[i]? = some a) (hv : Vis sg a) (hd : (a == ("__debug__" : Str)) = false := by decide) (hcd : (a == ("__classdict__" : Str)) = false := by decide)
    (hst : starEach [e] (PyProof.Rows.envOfC qg sg s.heap.objs.size g cdg) = [(false, eval e (PyProof.Rows.envOfC qg sg s.heap.objs.size g cdg))] := by rfl) :
    PE (cxOf L2.CX0 X.prog X.w X.K X.mg X.base Ng qg sg g cdg X.A X.stack s H Eg).nox (.Call (.Name a p1) [e] [] p2)
      (fun σZ HZ Q => σZ[i]? = some (some (.ref f)) ∧ te σZ HZ fun x H1 => H1 c' = some (LamX.CodeO c' (X.env.qual ++ "<lambda>")) ∧ tb (σ ++ [some x]) H1 Q) := by
  refine ⟨fun pinsZ sZ σZ HZ Q IZ h => ?_⟩
  obtain ⟨hs, ht⟩ := h
  refine wpAny_Call_Name_kw (thn ((pe_var (pos := p1) (i := i) hN hv hd hcd).run pinsZ sZ σZ HZ (fun v H1 => v = .ref f ∧ H1 = HZ) IZ ⟨.ref f, hs, rfl, rfl⟩) fun u s1 ⟨v, H1, I1, r1, q1⟩ => ?_)
  obtain ⟨ev, eH⟩ := q1
  subst ev
  rw [eH] at I1
  obtain rfl : u = Value.ref f := r1
  have of1 : ∀ {s1 : Shared} {σZ : L2.St} {HZ : Hp}, Inv (cxOf L2.CX0 X.prog X.w X.K X.mg X.base Ng qg sg g cdg X.A X.stack s H Eg).nox pinsZ σZ HZ s1 → s1.heap.get? f = some (PySem.W.kla_obj "<lambda>" (X.env.qual ++ "<lambda>") params body scope (cloFrom X.env.cells scope.names []) pm c' ctv) :=
    fun I1 => I1.base.keep f _ hf hfn hfr (fun z => nomatch (show f ∈ ([] : List Addr) from z))
  refine PySem.W.callWith_F ⟨_, _, _, _, of1 I1⟩ ?_ hst (by rfl)
  have ebt : backTo p2 (starEach [e] (PyProof.Rows.envOfC qg sg s.heap.objs.size g cdg)) = [(false, eval e (PyProof.Rows.envOfC qg sg s.heap.objs.size g cdg))] := by
    rw [hst]; simp [backTo]
  show wpAny _ _ (spliced (backTo p2 (starEach [e] (PyProof.Rows.envOfC qg sg s.heap.objs.size g cdg)))) _ _ s1
  rw [ebt]
  refine Calls.spliced_cons (thn (he.run pinsZ s1 σZ HZ _ I1 ht) fun u s2 ⟨x, H2, I2, rx, hc, q2⟩ => Calls.spliced_nil ?_)
  have of2 := of1 I2
  have un : Un (frs X.stack) [] H H2 s.heap s2.heap := I2.base
  obtain ⟨⟨oc, vs, tq, hoc, hdc, hvc⟩, _, _⟩ := I2.hok c' _ hc
  have rc : codeAny (model X.prog X.w) (X.A.deeper (PyProof.Rows.envOfC qg sg s.heap.objs.size g cdg)) (.call (.ref f) ⟨[u], []⟩) (CR (L2.CX X.prog X.w) (PyProof.Rows.envOfC qg sg s.heap.objs.size g cdg :: X.stack) X.prog X.w H2 s2 Q C8.E0) s2 := by
    refine PySem.W.kla_callFunE hr.depth of2 rfl L.co L.gen rfl ⟨c', oc, vs, tq, rfl, hoc, hdc, hvc⟩ ?_
    rw [hbind]
    refine wpAny_pure (wpAny_newFunctionEnv L.nocell (fun y hy => ?_) (fun h₁ hns hsb => ⟨I2.nolimit.fresh _ hsb, ?_⟩) L.kind)
    · obtain rfl : y = (t, u) := by simpa using hy
      exact L.tl
    · show codeAny _ _ (.expr body (LamX.lamEnv X scope s2.heap.objs.size f c')) _ _
      have kp : ∀ b o, s2.heap.get? b = some o → h₁.get? b = some o := fun b o e => hsb.extBut b o (Nat.ne_of_lt (Heap.lt_size e)) (Heap.get?_push_of_some _ e)
      have J : Inv (lam1Cx X (X.A.deeper (PyProof.Rows.envOfC qg sg s.heap.objs.size g cdg)) (PyProof.Rows.envOfC qg sg s.heap.objs.size g cdg :: X.stack) s2 H2 scope t f c') [] (σ ++ [some x]) H2 { s2 with heap := h₁, toks := s2.toks + ([(t, u)] : List (Str × Value)).length } :=
        lam1_start I L nt I2.env0 hr.hd un rx hns kp
      refine PySem.W.kla_codeExpr (wpAny_mono ((hbody _ _ s2 H2 (hr.deeper _)).run [] _ _ H2 Q J q2) (fun v s' hq => ?_) fun e s' hq => hq)
      obtain ⟨w', H', J', rv, q⟩ := hq
      exact ⟨w', H', J'.os, J'.bare, J'.base, J'.hok, rv, q⟩
  refine ⟨⟨_, _, _, _, of2⟩, wpAny_call (codeAny_mono rc fun r s' hq => ?_)⟩
  cases r with
  | error e =>
    obtain ⟨_, _, _, _, _, _, _, _, _, _, _, _, z⟩ := (show L2.CX X.prog X.w _ H2 s2 C8.E0 e s' from hq)
    exact (show False from z).elim
  | ok fl =>
    cases fl with
    | ret u => exact I2.after hq
    | next => exact False.elim hq
    | brk => exact False.elim hq
    | cont => exact False.elim hq
end
/-- the def that calls what it got as its third argument; TT: what it makes of the lambda's reading -/
def Gives1 (X : Cx) (Ng : List Str) (x : Str) (sg : Scope) (g : Addr) (cdg : Value) (bg : List Stmt) (a : Str) (q : Str) (TT : V → V → (V → Hp → VK → Prop) → Hp → VK → Prop) : Prop :=
  ∀ (f c' : Addr) (s : Shared) (H : Hp) (Q : VK) (Eg : XK) (tl : V → Hp → VK → Prop) (x1 x2 : V),
    (∀ (e : Expr) (te : TE) (p1 p2 : Pos), PE (cxOf L2.CX0 X.prog X.w X.K X.mg X.base Ng x sg g cdg X.A X.stack s H Eg).nox e te → starEach [e] (PyProof.Rows.envOfC x sg s.heap.objs.size g cdg) = [(false, eval e (PyProof.Rows.envOfC x sg s.heap.objs.size g cdg))] →
      PE (cxOf L2.CX0 X.prog X.w X.K X.mg X.base Ng x sg g cdg X.A X.stack s H Eg).nox (.Call (.Name a p1) [e] [] p2) (fun σZ HZ Q => σZ[2]? = some (some (.ref f)) ∧ te σZ HZ fun x H1 => H1 c' = some (LamX.CodeO c' q) ∧ tl x H1 Q)) →
    H c' = some (LamX.CodeO c' q) → TT x1 x2 tl H Q →
    ∃ t, PSs (cxOf L2.CX0 X.prog X.w X.K X.mg X.base Ng x sg g cdg X.A X.stack s H Eg).nox bg t ∧ t { nx := fun _ H' => Q .non H', rt := Q } (L2.start Ng [x1, x2, .ref f]) H
def tLam1 [Tn] (TT : V → V → (V → Hp → VK → Prop) → Hp → VK → Prop) (t1 t2 t : TE) : TE := fun σ H Q => t1 σ H fun x1 H1 => t2 σ H1 fun x2 H2 => TbsOk H2 ∧ ∀ H3, Same H2 H3 → TT x1 x2 (fun x H' Q' => t (σ ++ [some x]) H' Q') H3 Q
section
variable {X : Cx} [Tn]
/-- x(e1, e2, lambda t: body) -/
theorem pe_lamcall1 {TT : V → V → (V → Hp → VK → Prop) → Hp → VK → Prop} {x a tp : Str} {g c P : Addr} {k : Nat} {st : Stmt} {fd : FuncData} {Ng ps : List Str}
    {e1 e2 : Expr} {t1 t2 : TE} {params : Arguments} {body : Expr} {scope : Scope} {t : TE} {p lpos pos : Pos} (hg : Gl X x) (hm : X.mg x = some (.ref g)) (F : L2.Fun X.K x x st g fd)
    (hb : L2.Binds X.K fd ps []) (hps : ps.length = 3) (Sg : FnScope Ng ps (defScope st)) (hNg : Ng[2]? = some a) (hva : Vis (defScope st) a)
    (hG : ∀ cdv, Gives1 X Ng x (defScope st) g cdv (defBody st) a (X.env.qual ++ "<lambda>") TT)
    (TB : LamX.TabB X.base X.mg c P) (hcode : X.env.code = .ref c) (hmT : (P, X.env.qual ++ "<lambda>") ∈ Tn.t) (hu : ∀ p ∈ Tn.t, p.1 = P → p.2 = X.env.qual ++ "<lambda>") (hr : Room (k + 2) X.A) (L : LamS1 X.env.scope scope tp) (nt : tp ∉ X.N) (hdef : defaultsOf params X.env = ([], []))
    (hbind : ∀ (q : Str) (cl : List (Str × Addr)) (pm cv ctv u : Value), bindArgs (PySem.W.kla_fn "<lambda>" q params body scope cl pm cv ctv) ⟨[u], []⟩ = pure [(tp, u)])
    (h1 : PE X e1 t1) (h2 : PE X e2 t2)
    (hbody : ∀ (A : Around) (outer : List Env) (s : Shared) (H : Hp) (f c' : Addr), Room k (A.deeper (LamX.lamEnv X scope s.heap.objs.size f c')) → PE (lam1Cx X A outer s H scope tp f c') body t)
    (hdb : (x == ("__debug__" : Str)) = false := by decide) (hd : (a == ("__debug__" : Str)) = false := by decide) (hcd : (a == ("__classdict__" : Str)) = false := by decide)
    (he1 : starEach [e1, e2, .Lambda params body scope lpos] X.env = (false, eval e1 X.env) :: starEach [e2, .Lambda params body scope lpos] X.env := by rfl)
    (he2 : starEach [e2, .Lambda params body scope lpos] X.env = [(false, eval e2 X.env), (false, eval (.Lambda params body scope lpos) X.env)] := by rfl) :
    PE X (.Call (.Name x p) [e1, e2, .Lambda params body scope lpos] [] pos) (tLam1 TT t1 t2 t) := by
  have hk := F.kp
  obtain ⟨oc, od, kV, doc, pm, an, cdv, ct, osl, rfl, lk, hcg⟩ := F.ex
  refine ⟨fun pins s σ H Q I h => ?_⟩
  refine wpAny_Call_Name_kw (ld_glob I hg hm ?_ hdb)
  have eb : backTo pos (starEach [e2, .Lambda params body scope lpos] X.env) = [(false, eval e2 X.env), (false, eval (.Lambda params body scope lpos) X.env)] := by
    rw [he2]; simp [backTo]
  refine PySem.W.callWith_K (h₀ := X.base) I.ok.mod.kin hk ?_ he1 (by rw [eb]; rfl)
  have ebt : backTo pos (starEach [e1, e2, .Lambda params body scope lpos] X.env) = [(false, eval e1 X.env), (false, eval e2 X.env), (false, eval (.Lambda params body scope lpos) X.env)] := by
    rw [he1, he2]; simp [backTo]
  rw [ebt]
  refine Calls.spliced_cons (thn (h1.run pins s σ H _ I h) fun u1 s1 ⟨x1, H1, I1, r1, q1⟩ => ?_)
  refine Calls.spliced_cons (thn (h2.run pins s1 σ H1 _ I1 q1) fun u2 s2 ⟨x2, H2, I2, r2, hT, q2⟩ => ?_)
  refine Calls.spliced_cons (lam_make I2 TB hcode hmT hu hT hdef (L.has I.ok) fun f c' pm' ctv H3 s3 I3 sm hf hfn hfr hco => ?_)
  refine Calls.spliced_nil ⟨I3.kIn, ?_⟩
  have rc : codeAny (model X.prog X.w) X.A (.call (.ref g) ⟨[u1, u2, .ref f], []⟩) (CR L2.CX0 X.stack X.prog X.w H3 s3 Q C8.E0) s3 := by
    refine LamX.run_ofS (N := Ng) (ps := ps) (us := [u1, u2, .ref f]) (vs := [x1, x2, .ref f]) lk hcg Sg hr I3.env0 (hb s3 [u1, u2, .ref f] I3.kIn (by rw [hps]; rfl)) (.cons r1 (.cons r2 (.cons rfl .nil))) (by rw [hps]; rfl) fun hr' => ?_
    obtain ⟨t', ht', hq'⟩ := hG cdv f c' s3 H3 Q C8.E0 (fun x H' Q' => t (σ ++ [some x]) H' Q') x1 x2 (fun e te p1 p2 he hst => pe_act1 (i := 2) I3 L nt hf hfn hfr (fun u => hbind _ _ _ _ _ u) hr' (fun A outer s H hr2 => hbody A outer s H f c' hr2) he hNg hva hd hcd hst) hco (q2 H3 sm)
    exact ⟨t', ht'.nox, hq'⟩
  refine wpAny_call (codeAny_mono rc fun r s4 hq => ?_)
  cases r with
  | error e => exact (show False from hq).elim
  | ok fl =>
    cases fl with
    | ret u => exact I3.after hq
    | next => exact False.elim hq
    | brk => exact False.elim hq
    | cont => exact False.elim hq
end
/-- the table that a code object tells of -/
def spLawT [Tn] (sp : Sp) : Sp := fun vs H Q E => TbsOk H ∧ sp vs H Q E
theorem ne_of_beqF {a b : Addr} (h : (a == b) = false) : a ≠ b := by
  intro e
  rw [e, beq_self_eq_true] at h
  cases h

end My
namespace PySem
namespace MyX
open PySem.W PySem.Calls PyProof.Rows PySem.HandSPX Builtin Builtin.ObjectAttr
/-! ### errors over Exception: made, and their first field -/
abbrev exM : List Value := [.type "Exception", .type "BaseException", .type "object"]
theorem exT (x : Addr) : excTail exM [.ref x, .type "Exception", .type "BaseException", .type "object"] = true := (by decide +kernel : excTail exM exM = true)
theorem one_sz (v : Value) : [v].length ≤ sizeLine := by
  rw [sizeLine_eq]
  exact (by decide : 1 ≤ 16777216)
/-- what the written part says of a class over Exception whose __init__ is its own -/
structure XCls (K : Frag) (C fI : Addr) (f : Str) : Prop where
  cls : ∃ nm q N bs bm sn sub ab col dd k0 k1 k2 k3 k5, K.lookup C = some (excClassObj nm q C N bs bm true sn sub ab col dd k0 k1 k2 k3 k5 "Exception.__new__") ∧ excTail exM bm = true
  sa : findIn K (.ref C) "__setattr__" = some (some (.builtin "object.__setattr__"))
  ga : findIn K (.ref C) "__getattribute__" = some (some (.builtin "BaseException.__getattribute__"))
  gg : findIn K (.ref C) "__getattr__" = some none
  noN : findIn K (.ref C) f = some none
  iC : findIn K (.ref C) "__init__" = some (some (.ref fI))
  tC : typeIn K (.ref fI) = some (.type "function")
  kC : keepIn K (.ref C) = true
  exC : subIn K (.ref C) (.type "BaseException") = some true
  tyC : typeIn K (.ref C) = some (.type "type")
  hdC : hasDictIn K C = true
theorem XCls.over {K : Frag} {C fI : Addr} {f : Str} (T : XCls K C fI f) : excOver K C exM = true := by
  obtain ⟨nm, q, N, bs, bm, sn, sub, ab, col, dd, k0, k1, k2, k3, k5, hC, hbm⟩ := T.cls
  have e : clsIn K C = some { name := nm, bases := bs, mro := .ref C :: bm, ns := N, qualname := q, hasDict := true, slotNames := sn, subclasses := sub, abstract := ab, collection := col, hasDel := false } := by unfold clsIn; rw [hC] <;> rfl
  unfold excOver
  rw [e]
  show (C == C && excTail exM bm) = true
  rw [hbm, beq_self_eq_true]; rfl
section
variable {prog : Program} {w : World} {A : Around} {R : Result → Shared → Prop} {s : Shared} {K : Frag}
theorem first_field {x C fI t : Addr} {f : Str} {tk : Tok} {v : Value} (T : XCls K C fI f) (X : K.In s.heap) (hx : s.heap.get? x = some (excO C t))
    (hq : ∀ h' tk' dx, (∀ b o, b ≠ x → s.heap.get? b = some o → h'.get? b = some o) → s.heap.objs.size ≤ dx → dx ≠ x → h'.get? x = some { cls := .ref C, dict := some dx, data := .fields #[.ref t, .none, .none, .none, .bool false, .none] } →
      h'.Ns1 dx (fun y => if y = f then some v else none) → R (.ok (.ret .none)) { s with heap := h', toks := tk' }) :
    codeAny (model prog w) A (.call (.builtin "object.__setattr__") ⟨[.ref x, .str f tk, v], []⟩) R s := by
  obtain ⟨hp, g, d, tok, os⟩ := s
  refine osa_openX (od := none) PySem.F.store_Exception X ⟨hx, rfl, rfl, trivial⟩ T.over (by unfold takerIn; rw [T.noN]; rfl) fun b => ?_
  obtain ⟨cd, hc, hd'⟩ := any_some T.hdC
  have lt : x < hp.objs.size := Heap.lt_size hx
  have ne : hp.objs.size ≠ x := Nat.ne_of_gt lt
  refine wpAny_bind (wpAny_pure (wpAny_bind (instanceDict_exc (t := t) (c2 := .none) hx (looks_clsIn X hc) hd' ?_)))
  show wpAny _ _ (storeInDict hp.objs.size (.str f tk) f v) _ _ _
  refine store_in_new ?_ fun h' tk' hn hs => ?_
  · exact ⟨_, #[], _, (Heap.get?_update_ne _ _ _ _ ne).trans (Heap.get?_push_at rfl rfl), rfl, fun e he => absurd he (by simp), fun _ => rfl⟩
  · have hx1 : (hp.push (dictOf [] 0)).get? x = some (excObj C t none .none) := Heap.get?_push_of_some _ hx
    refine hq h' tk' hp.objs.size (fun b o hb ho => ?_) (Nat.le_refl _) ne ?_ hn
    · exact (hs.2 b (Nat.ne_of_lt (Heap.lt_size ho))).trans ((Heap.get?_update_ne _ _ _ _ hb).trans (Heap.get?_push_of_some _ ho))
    · exact (hs.2 x ne.symm).trans (Heap.get?_update_self _ hx1 rfl)
end
end MyX
end PySem
namespace My
open PySem L2
variable [Tn]
section
variable {X : Cx} {C : Addr} {B newId initId : String} {bmB : List Value}
/-- X() of a class without an own __init__ -/
theorem pmk_bare {x : Str} {p pos : Pos} (F : ExcBaseFacts B newId initId bmB) (q : PySem.W.excIn X.K C bmB newId = true) (gC : X.mg x = some (.ref C)) (kC : PySem.W.keepIn X.K (.ref C) = true) (r : Raises X (.ref C)) (hg : Gl X x)
    (hdb : (x == ("__debug__" : Str)) = false := by decide) : PMk X (.Call (.Name x p) [] [] pos) (fun _ H Q => Q (.ref C) none H) := by
  intro pins s σ H Q I h
  refine wpAny_Call_Name_kw (ld_glob I hg gC ?_ hdb)
  refine PySem.W.callWith_K0 I.kIn kC ?_
  obtain ⟨bm, N, nm, qn, bs, hdct, sn, sub, ab, col, dd, k0, k1, k2, k3, k5, mN, hC, hN, hni, T⟩ := exc_obj I.kIn q
  exact wpAny_call_exc_subT F T hC hN hni (fun h' e hm => mk_of I hm r h (I.hok.gone hm.new)) (Nat.zero_le _)
end
theorem pcX {X : Cx} {E : XK} (tk : Takes X fun cls d _ H => E cls d H) : Passes (L2.CX X.prog X.w) X E := passes_call tk fun _ _ _ _ h => h
/-- what the clauses of a try ask, whatever the slots hold -/
def WT (n : Nat) (W : WX) : XK := fun cls d H => ∀ σ : St, σ.length = n → W cls d σ H
theorem passesT {X : Cx} {W : WX} {n : Nat} (tk : Takes X W) (hn : X.N.length = n := by rfl) : Passes (L2.CX X.prog X.w) X (WT n W) := fun _ σ _ _ e s' I c => tk e s' (XE.of_call I (fun _ _ _ h => h σ (I.len.trans hn)) c)
theorem exm_by {K : PySem.W.Frag} {S R : Addr} {b : Bool} (h1 : PySem.W.subIn K (.ref R) (.type "BaseException") = some true) (h2 : PySem.W.isClsIn K R = true) (h3 : PySem.W.typeIn K (.ref R) = some (.type "type")) (h4 : PySem.W.subIn K (.ref S) (.ref R) = some b) :
    PySem.W.exmOne K (.ref S) (.ref R) = some b := by
  have e1 : (PySem.W.subIn K (.ref R) (.type "BaseException") == some true) = true := by rw [h1] <;> rfl
  have e2 : ((PySem.W.clsIn K R).isSome && PySem.W.typeIn K (.ref R) == some (.type "type")) = true := by
    have h2' : (PySem.W.clsIn K R).isSome = true := h2
    rw [h2', h3] <;> rfl
  show (if (PySem.W.subIn K (.ref R) (.type "BaseException") == some true) = true then (if ((PySem.W.clsIn K R).isSome && PySem.W.typeIn K (.ref R) == some (.type "type")) = true then PySem.W.subIn K (.ref S) (.ref R) else none) else none) = some b
  rw [if_pos e1, if_pos e2]
  exact h4
theorem exm_self {K : PySem.W.Frag} {S : Addr} (h1 : PySem.W.subIn K (.ref S) (.type "BaseException") = some true) (h2 : PySem.W.isClsIn K S = true) (h3 : PySem.W.typeIn K (.ref S) = some (.type "type")) (h4 : PySem.W.subIn K (.ref S) (.ref S) = some true) :
    PySem.W.exmOne K (.ref S) (.ref S) = some true := exm_by h1 h2 h3 h4
theorem _root_.PySem.MyX.XCls.xf {K : PySem.W.Frag} {C fI : Addr} {f : Str} (T : PySem.MyX.XCls K C fI f) : XfC K C := ⟨T.ga, T.gg, T.exC, T.hdC⟩
/-- raised: an error of the class at C with one field -/
def Exc1 (E : XK) (C : Addr) (f : Str) (v : V) (H : Hp) : Prop := ∀ d H', Same H H' → H' d = some (.xd [(f, v)]) → E (.ref C) (some d) H'
theorem Exc1.after {E : XK} {C : Addr} {f : Str} {v : V} {H H1 : Hp} (h : Exc1 E C f v H) (s : Same H H1) : Exc1 E C f v H1 := fun d H' s' e => h d H' (s.trans s') e
theorem r_raise {t : St → Hp → XK → Prop} {W : WX} {σ : St} {H : Hp} {D : Ends} (h : t σ H fun cls d H' => W cls d σ H') : (fun (_ : Ends) σ H => t σ H fun cls d H' => W cls d σ H') D σ H := h

/-- where the top has written what -/
structure Adr where
  a_is_integer : Addr
  d_is_integer : FuncData
  a_is_between : Addr
  d_is_between : FuncData
  a_check_turns : Addr
  d_check_turns : FuncData
  a_check_roots : Addr
  d_check_roots : FuncData
  a_check_count : Addr
  d_check_count : FuncData
  a_wrong_in_name : Addr
  d_wrong_in_name : FuncData
  a_check_name : Addr
  d_check_name : FuncData
  a_refuse : Addr
  d_refuse : FuncData
  a_is_row : Addr
  d_is_row : FuncData
  a_form_fault : Addr
  d_form_fault : FuncData
  a_hand_fault : Addr
  d_hand_fault : FuncData
  a_again_fault : Addr
  d_again_fault : FuncData
  a_nobody_fault : Addr
  d_nobody_fault : FuncData
  a_early_fault : Addr
  d_early_fault : FuncData
  a_telling_fault : Addr
  d_telling_fault : FuncData
  a_is_near : Addr
  d_is_near : FuncData
  a_near_fault : Addr
  d_near_fault : FuncData
  a_Tree_init : Addr
  d_Tree_init : FuncData
  a_time_of : Addr
  d_time_of : FuncData
  a_is_name : Addr
  d_is_name : FuncData
  t_is_name_roots : Addr
  a_known_at : Addr
  d_known_at : FuncData
  t_known_at_roots : Addr
  a_row_fault : Addr
  d_row_fault : FuncData
  a_fault : Addr
  d_fault : FuncData
  a_by_start : Addr
  d_by_start : FuncData
  a_with_starts : Addr
  d_with_starts : FuncData
  a_start_of : Addr
  d_start_of : FuncData
  a_names_of : Addr
  d_names_of : FuncData
  a_earliest : Addr
  d_earliest : FuncData
  a_check_names : Addr
  d_check_names : FuncData
  a_plan_of : Addr
  d_plan_of : FuncData
  a_Machine_init : Addr
  d_Machine_init : FuncData
  a__law_source : Addr
  d__law_source : FuncData
  a__law_draw : Addr
  d__law_draw : FuncData
  a__law_big : Addr
  d__law_big : FuncData
  a__law_numbers : Addr
  d__law_numbers : FuncData
  a__law_times : Addr
  d__law_times : FuncData
  a__law_is : Addr
  d__law_is : FuncData
  a__law_same_names : Addr
  d__law_same_names : FuncData
  a__law_plan : Addr
  d__law_plan : FuncData
  a__law_same_rows : Addr
  d__law_same_rows : FuncData
  a__law_called : Addr
  d__law_called : FuncData
  a_law : Addr
  d_law : FuncData
  c_Tree : Addr
  c_Machine : Addr
  k_by_start : Addr
  tb_by_start : Addr
/-- what the walk asks of the top -/
structure Txt (K : PySem.W.Frag) (mg : Str → Option Value) (base : Heap) (a : Adr) : Prop where
  B_by_start : LamX.TabB base mg a.k_by_start a.tb_by_start
  tn_by_start : (a.tb_by_start, (("by_start" ++ ".<locals>." : Str) ++ "<lambda>")) ∈ Tn.t
  tu_by_start : ∀ p ∈ Tn.t, p.1 = a.tb_by_start → p.2 = (("by_start" ++ ".<locals>." : Str) ++ "<lambda>")
  F_is_integer : Fun K "is_integer" "is_integer" s_is_integer a.a_is_integer a.d_is_integer
  b_is_integer : Binds K a.d_is_integer ["thing"] []
  g_is_integer : mg "is_integer" = some (.ref a.a_is_integer)
  F_is_between : Fun K "is_between" "is_between" s_is_between a.a_is_between a.d_is_between
  b_is_between : Binds K a.d_is_between ["thing", "low", "high"] []
  g_is_between : mg "is_between" = some (.ref a.a_is_between)
  F_check_turns : Fun K "check_turns" "check_turns" s_check_turns a.a_check_turns a.d_check_turns
  b_check_turns : Binds K a.d_check_turns ["turns"] []
  g_check_turns : mg "check_turns" = some (.ref a.a_check_turns)
  F_check_roots : Fun K "check_roots" "check_roots" s_check_roots a.a_check_roots a.d_check_roots
  b_check_roots : Binds K a.d_check_roots ["roots"] []
  g_check_roots : mg "check_roots" = some (.ref a.a_check_roots)
  F_check_count : Fun K "check_count" "check_count" s_check_count a.a_check_count a.d_check_count
  b_check_count : Binds K a.d_check_count ["count", "low", "high"] []
  g_check_count : mg "check_count" = some (.ref a.a_check_count)
  F_wrong_in_name : Fun K "wrong_in_name" "wrong_in_name" s_wrong_in_name a.a_wrong_in_name a.d_wrong_in_name
  b_wrong_in_name : Binds K a.d_wrong_in_name ["thing", "turns", "roots"] []
  g_wrong_in_name : mg "wrong_in_name" = some (.ref a.a_wrong_in_name)
  F_check_name : Fun K "check_name" "check_name" s_check_name a.a_check_name a.d_check_name
  b_check_name : Binds K a.d_check_name ["thing", "turns", "roots"] []
  g_check_name : mg "check_name" = some (.ref a.a_check_name)
  F_refuse : Fun K "refuse" "refuse" s_refuse a.a_refuse a.d_refuse
  b_refuse : Binds K a.d_refuse ["wrong"] []
  g_refuse : mg "refuse" = some (.ref a.a_refuse)
  F_is_row : Fun K "is_row" "is_row" s_is_row a.a_is_row a.d_is_row
  b_is_row : Binds K a.d_is_row ["thing", "parts"] []
  g_is_row : mg "is_row" = some (.ref a.a_is_row)
  F_form_fault : Fun K "form_fault" "form_fault" s_form_fault a.a_form_fault a.d_form_fault
  b_form_fault : Binds K a.d_form_fault ["thing", "most", "parts"] []
  g_form_fault : mg "form_fault" = some (.ref a.a_form_fault)
  F_hand_fault : Fun K "hand_fault" "hand_fault" s_hand_fault a.a_hand_fault a.d_hand_fault
  b_hand_fault : Binds K a.d_hand_fault ["n", "pairs", "first_sender", "first_receiver"] []
  g_hand_fault : mg "hand_fault" = some (.ref a.a_hand_fault)
  F_again_fault : Fun K "again_fault" "again_fault" s_again_fault a.a_again_fault a.d_again_fault
  b_again_fault : Binds K a.d_again_fault ["keys", "taken"] []
  g_again_fault : mg "again_fault" = some (.ref a.a_again_fault)
  F_nobody_fault : Fun K "nobody_fault" "nobody_fault" s_nobody_fault a.a_nobody_fault a.d_nobody_fault
  b_nobody_fault : Binds K a.d_nobody_fault ["wanted", "keys"] []
  g_nobody_fault : mg "nobody_fault" = some (.ref a.a_nobody_fault)
  F_early_fault : Fun K "early_fault" "early_fault" s_early_fault a.a_early_fault a.d_early_fault
  b_early_fault : Binds K a.d_early_fault ["told", "roots", "letter"] []
  g_early_fault : mg "early_fault" = some (.ref a.a_early_fault)
  F_telling_fault : Fun K "telling_fault" "telling_fault" s_telling_fault a.a_telling_fault a.d_telling_fault
  b_telling_fault : Binds K a.d_telling_fault ["told", "roots", "wanted", "letter"] []
  g_telling_fault : mg "telling_fault" = some (.ref a.a_telling_fault)
  F_is_near : Fun K "is_near" "is_near" s_is_near a.a_is_near a.d_is_near
  b_is_near : Binds K a.d_is_near ["times", "hand", "time", "width"] []
  g_is_near : mg "is_near" = some (.ref a.a_is_near)
  F_near_fault : Fun K "near_fault" "near_fault" s_near_fault a.a_near_fault a.d_near_fault
  b_near_fault : Binds K a.d_near_fault ["why", "marks", "width"] []
  g_near_fault : mg "near_fault" = some (.ref a.a_near_fault)
  F_Tree_init : Fun K "__init__" "Tree.__init__" s_Tree_init a.a_Tree_init a.d_Tree_init
  b_Tree_init : Binds K a.d_Tree_init ["self", "machine", "turns", "roots"] []
  mk_Tree : Mk K a.c_Tree a.a_Tree_init
  F_time_of : Fun K "time_of" "time_of" s_time_of a.a_time_of a.d_time_of
  b_time_of : Binds K a.d_time_of ["tree", "name"] []
  g_time_of : mg "time_of" = some (.ref a.a_time_of)
  F_is_name : FunD K "is_name" "is_name" (defArgs s_is_name) (defBody s_is_name) (defScope s_is_name) [] [("turns", .non), ("roots", .ref a.t_is_name_roots)] a.a_is_name a.d_is_name
  t_is_name_roots : ∀ H, SqT K H a.t_is_name_roots [.int 0]
  g_is_name : mg "is_name" = some (.ref a.a_is_name)
  F_known_at : FunD K "known_at" "known_at" (defArgs s_known_at) (defBody s_known_at) (defScope s_known_at) [] [("turns", .non), ("roots", .ref a.t_known_at_roots)] a.a_known_at a.d_known_at
  t_known_at_roots : ∀ H, SqT K H a.t_known_at_roots [.int 0]
  g_known_at : mg "known_at" = some (.ref a.a_known_at)
  F_row_fault : Fun K "row_fault" "row_fault" s_row_fault a.a_row_fault a.d_row_fault
  b_row_fault : Binds K a.d_row_fault ["n", "thing"] []
  g_row_fault : mg "row_fault" = some (.ref a.a_row_fault)
  F_fault : Fun K "fault" "fault" s_fault a.a_fault a.d_fault
  b_fault : Binds K a.d_fault ["machine", "n", "thing"] []
  g_fault : mg "fault" = some (.ref a.a_fault)
  F_by_start : FunC K "by_start" "by_start" s_by_start a.a_by_start a.d_by_start a.k_by_start
  b_by_start : Binds K a.d_by_start ["rows"] []
  g_by_start : mg "by_start" = some (.ref a.a_by_start)
  F_with_starts : Fun K "with_starts" "with_starts" s_with_starts a.a_with_starts a.d_with_starts
  b_with_starts : Binds K a.d_with_starts ["rows", "starts"] []
  g_with_starts : mg "with_starts" = some (.ref a.a_with_starts)
  F_start_of : Fun K "start_of" "start_of" s_start_of a.a_start_of a.d_start_of
  b_start_of : Binds K a.d_start_of ["machine", "name"] []
  g_start_of : mg "start_of" = some (.ref a.a_start_of)
  F_names_of : Fun K "names_of" "names_of" s_names_of a.a_names_of a.d_names_of
  b_names_of : Binds K a.d_names_of ["machine", "n", "plan"] []
  g_names_of : mg "names_of" = some (.ref a.a_names_of)
  F_earliest : Fun K "earliest" "earliest" s_earliest a.a_earliest a.d_earliest
  b_earliest : Binds K a.d_earliest ["machine", "n", "plan"] []
  g_earliest : mg "earliest" = some (.ref a.a_earliest)
  F_check_names : Fun K "check_names" "check_names" s_check_names a.a_check_names a.d_check_names
  b_check_names : Binds K a.d_check_names ["names"] []
  g_check_names : mg "check_names" = some (.ref a.a_check_names)
  F_plan_of : Fun K "plan_of" "plan_of" s_plan_of a.a_plan_of a.d_plan_of
  b_plan_of : Binds K a.d_plan_of ["machine", "names"] []
  g_plan_of : mg "plan_of" = some (.ref a.a_plan_of)
  F_Machine_init : Fun K "__init__" "Machine.__init__" s_Machine_init a.a_Machine_init a.d_Machine_init
  b_Machine_init : Binds K a.d_Machine_init ["self", "o", "l", "g"] []
  mk_Machine : Mk K a.c_Machine a.a_Machine_init
  F__law_source : Fun K "_law_source" "_law_source" s__law_source a.a__law_source a.d__law_source
  b__law_source : Binds K a.d__law_source ["_law_script"] []
  g__law_source : mg "_law_source" = some (.ref a.a__law_source)
  F__law_draw : Fun K "_law_draw" "_law_draw" s__law_draw a.a__law_draw a.d__law_draw
  b__law_draw : Binds K a.d__law_draw ["_law_source_here", "_law_limit"] []
  g__law_draw : mg "_law_draw" = some (.ref a.a__law_draw)
  F__law_big : Fun K "_law_big" "_law_big" s__law_big a.a__law_big a.d__law_big
  b__law_big : Binds K a.d__law_big ["_law_source_here", "_law_limit"] []
  g__law_big : mg "_law_big" = some (.ref a.a__law_big)
  F__law_numbers : Fun K "_law_numbers" "_law_numbers" s__law_numbers a.a__law_numbers a.d__law_numbers
  b__law_numbers : Binds K a.d__law_numbers ["_law_source_here"] []
  g__law_numbers : mg "_law_numbers" = some (.ref a.a__law_numbers)
  F__law_times : Fun K "_law_times" "_law_times" s__law_times a.a__law_times a.d__law_times
  b__law_times : Binds K a.d__law_times ["_law_numbers_here"] []
  g__law_times : mg "_law_times" = some (.ref a.a__law_times)
  F__law_is : Fun K "_law_is" "_law_is" s__law_is a.a__law_is a.d__law_is
  b__law_is : Binds K a.d__law_is ["_law_thing", "_law_due"] []
  g__law_is : mg "_law_is" = some (.ref a.a__law_is)
  F__law_same_names : Fun K "_law_same_names" "_law_same_names" s__law_same_names a.a__law_same_names a.d__law_same_names
  b__law_same_names : Binds K a.d__law_same_names ["_law_thing", "_law_due"] []
  g__law_same_names : mg "_law_same_names" = some (.ref a.a__law_same_names)
  F__law_plan : Fun K "_law_plan" "_law_plan" s__law_plan a.a__law_plan a.d__law_plan
  b__law_plan : Binds K a.d__law_plan ["_law_source_here", "_law_letter", "_law_gap", "_law_n", "_law_most"] []
  g__law_plan : mg "_law_plan" = some (.ref a.a__law_plan)
  F__law_same_rows : Fun K "_law_same_rows" "_law_same_rows" s__law_same_rows a.a__law_same_rows a.d__law_same_rows
  b__law_same_rows : Binds K a.d__law_same_rows ["_law_thing", "_law_due"] []
  g__law_same_rows : mg "_law_same_rows" = some (.ref a.a__law_same_rows)
  F__law_called : Fun K "_law_called" "_law_called" s__law_called a.a__law_called a.d__law_called
  b__law_called : Binds K a.d__law_called ["_law_n", "_law_rows"] []
  g__law_called : mg "_law_called" = some (.ref a.a__law_called)
  F_law : Fun K "law" "law" s_law a.a_law a.d_law
  b_law : Binds K a.d_law ["_law_script"] []
  g_law : mg "law" = some (.ref a.a_law)
  g_Tree : mg "Tree" = some (.ref a.c_Tree)
  cl_Tree : Cls K a.c_Tree
  nF_Tree_letter : NoAttr K a.c_Tree "letter"
  nF_Tree_gap : NoAttr K a.c_Tree "gap"
  nF_Tree_turns : NoAttr K a.c_Tree "turns"
  nF_Tree_roots : NoAttr K a.c_Tree "roots"
  nF_Tree_horizon : NoAttr K a.c_Tree "horizon"
  nF_Tree_powers : NoAttr K a.c_Tree "powers"
  g_Machine : mg "Machine" = some (.ref a.c_Machine)
  cl_Machine : Cls K a.c_Machine
  nF_Machine_o : NoAttr K a.c_Machine "o"
  nF_Machine_l : NoAttr K a.c_Machine "l"
  nF_Machine_g : NoAttr K a.c_Machine "g"
  nF_Machine_letter : NoAttr K a.c_Machine "letter"
  nF_Machine_gap : NoAttr K a.c_Machine "gap"
  n_abs : mg "abs" = none
  n_all : mg "all" = none
  n_bool : mg "bool" = none
  n_enumerate : mg "enumerate" = none
  n_int : mg "int" = none
  n_isinstance : mg "isinstance" = none
  n_len : mg "len" = none
  n_list : mg "list" = none
  n_max : mg "max" = none
  n_range : mg "range" = none
  n_set : mg "set" = none
  n_sorted : mg "sorted" = none
  n_sum : mg "sum" = none
  n_tuple : mg "tuple" = none
  g_MOST_TURNS : ∃ t, mg "MOST_TURNS" = some (.int 1000000000000 t)
  g_MOST_ROOTS : ∃ t, mg "MOST_ROOTS" = some (.int 6 t)
  g_LATEST_ROOT : ∃ t, mg "LATEST_ROOT" = some (.int 1000000000000 t)
  g_LONGEST_NAME : ∃ t, mg "LONGEST_NAME" = some (.int 200 t)
  g_GREATEST_ITEM : ∃ t, mg "GREATEST_ITEM" = some (.int 1000000000000000 t)
  g_MOST_PLANNED : ∃ t, mg "MOST_PLANNED" = some (.int 100 t)
  g_MOST_ROWS : ∃ t, mg "MOST_ROWS" = some (.int 400 t)
  g_LATEST_START : ∃ t, mg "LATEST_START" = some (.int 1000000000000000 t)
  g_FREE_DEPTHS : ∃ t, mg "FREE_DEPTHS" = some (.int 120 t)
  g_TURNS_DEPTHS : ∃ t, mg "TURNS_DEPTHS" = some (.int 40 t)
  g_GREATEST_PART : ∃ t, mg "GREATEST_PART" = some (.int 1000000000 t)
local macro_rules | `(tactic| walk_at "src") => `(tactic| first | assumption | (refine' SrcAt.keep ?h ?s; (case s => assumption); (case h => walk_at "src")))
local macro_rules | `(tactic| walk_at "ne") => `(tactic| first | assumption | (apply Ne.symm; assumption) | (refine' SrcAt.ne ?a ?b; (case b => assumption); (case a => walk_at "src")))
local macro_rules | `(tactic| walk_at "hp") => `(tactic| first
  | assumption
  | with_reducible exact upd_same
  | (refine' Same.at ?s ?h; (case s => assumption); (case h => walk_at "hp"))
  | (refine' But.at ?s ?n ?h; (case s => assumption); (case n => walk_at "ne"); (case h => walk_at "hp"))
  | (rw [upd_ne (by first | assumption | (apply Ne.symm; assumption))]; walk_at "hp"))
local macro_rules | `(tactic| walk_at "side") => `(tactic| first | assumption | decide | omega | exact mulL (by omega) (by omega) | exact mulR (by omega) (by omega) | exact cdiv_of (by omega) (by omega) | exact powOk (by omega) (by omega) (by decide) | exact mulL (Int.lt_of_lt_of_le (by decide) (fmod_nn (by decide))) (Int.lt_trans (fmod_lt (by decide)) (by decide)))
local macro_rules | `(tactic| walk_at "pl") => `(tactic| ((repeat with_reducible refine putF_le ?_); with_unfolding_all exact Nat.le_of_ble_eq_true rfl))
local macro_rules | `(tactic| walk_at "lk") => `(tactic| first | assumption | (rw [lookup_putF, if_pos rfl]) | (rw [lookup_putF, if_neg (by decide +kernel)]; walk_at "lk"))
local macro_rules | `(tactic| walk_at "cls") => `(tactic| first | with_unfolding_all exact Txt.cl_Tree (by assumption) | with_unfolding_all exact Txt.nF_Tree_letter (by assumption) | with_unfolding_all exact Txt.nF_Tree_gap (by assumption) | with_unfolding_all exact Txt.nF_Tree_turns (by assumption) | with_unfolding_all exact Txt.nF_Tree_roots (by assumption) | with_unfolding_all exact Txt.nF_Tree_horizon (by assumption) | with_unfolding_all exact Txt.nF_Tree_powers (by assumption) | with_unfolding_all exact Txt.cl_Machine (by assumption) | with_unfolding_all exact Txt.nF_Machine_o (by assumption) | with_unfolding_all exact Txt.nF_Machine_l (by assumption) | with_unfolding_all exact Txt.nF_Machine_g (by assumption) | with_unfolding_all exact Txt.nF_Machine_letter (by assumption) | with_unfolding_all exact Txt.nF_Machine_gap (by assumption))
/-- one turn of a reading -/
local macro_rules | `(tactic| walk_at "rd") => `(tactic| with_reducible first
  | (refine r_seq ?_; fail_if_success (refine r_ifS ?_))
  | refine r_asg ?_
  | refine r_gName ?_
  | (refine' r_var ?hv ?_; (case hv => with_unfolding_all exact rfl))
  | refine r_c ?_
  | refine r_op ?_
  | refine r_I0 ?_
  | (refine' r_I ?hc ?_; (case hc => walk_at "side"))
  | refine r_add ?_
  | refine r_sub ?_
  | refine r_eqI ?_
  | refine r_neI ?_
  | (refine' r_ixL ?hp ?he ?_; (case hp => walk_at "hp"); (case he => with_unfolding_all exact rfl))
  | (refine' r_ixT ?hp ?he ?_; (case hp => walk_at "hp"); (case he => with_unfolding_all exact rfl))
  | refine r_cons ?_
  | refine r_nil ?_
  | refine r_CB ?_
  | refine r_call ?_
  | refine r_test ?_
  | refine r_tB ?_
  | refine r_bl ?_
  | refine r_in ?_
  | refine Or.inl (r_in1 ?_)
  | refine r_in1 ?_
  | refine r_in2 ?_
  | (refine' r_lenL ?hp ?_; (case hp => walk_at "hp"))
  | (refine' r_lenT ?hp ?_; (case hp => walk_at "hp"))
  | refine r_ifS ?_
  | refine r_and ?_
  | refine r_or ?_
  | refine r_not ?_
  | refine r_andV ?_
  | refine r_orV ?_
  | refine r_notV ?_
  | refine r_ifE ?_
  | refine r_ret ?_
  | refine r_next ?_
  | refine r_drop ?_
  | refine r_gSub ?_
  | (refine' r_setL ?hp ?he ?_; (case hp => walk_at "hp"); (case he => with_unfolding_all exact rfl))
  | (refine' r_aug ?he ?_; (case he => with_unfolding_all exact rfl))
  | refine r_augS ?_
  | refine r_ip ?_
  | refine r_tup ?_
  | refine r_lst ?_
  | refine r_tFld ?_
  | (refine' r_fld ?hc ?hn ?hx ?he ?_; (case hx => walk_at "hp"); (case hc => walk_at "cls"); (case hn => walk_at "cls"); (case he => walk_at "lk"))
  | (refine' r_put ?hc ?hn ?hx ?hl ?_; (case hx => walk_at "hp"); (case hc => walk_at "cls"); (case hn => walk_at "cls"); (case hl => walk_at "pl"))
  | refine r_sl ?_
  | refine r_noP ?_
  | refine r_part ?_
  | refine r_un ?_
  | refine r_U ?_
  | refine r_Bm ?_
  | refine r_cont ?_
  | refine r_brk ?_
  | refine r_isNn ?_
  | refine r_isNi ?_
  | refine r_isNr ?_
  | refine r_notNn ?_
  | refine r_notNi ?_
  | refine r_notNr ?_
  | refine r_chain ?_
  | refine r_sFld ?_
  | refine r_make ?_
  | refine r_yes ?_
  | refine r_lc ?_
  | refine r_isiI true (by decide +kernel) ?_
  | refine r_isiI false (by decide +kernel) ?_
  | refine r_for ?_
  | refine r_iR1 ?_
  | refine r_iR2 ?_
  | refine r_iL ?_
  | refine r_tMeth ?_
  | (refine' r_meth ?hx ?hl ?_; (case hx => walk_at "hp"); (case hl => walk_at "no"))
  | refine r_iT ?_
  | refine iteT ?_
  | refine r_nF ?_
  | refine r_nT ?_
  | refine iteF ?_)
local macro_rules | `(tactic| walk_at "rdi") => `(tactic| with_reducible (refine r_seq ?_; refine r_ifS ?_))

/-! ### the law's draws -/
def spDraw : Sp := fun vs H Q _ => ∃ (p q : Addr) (lim : Int), vs = [.ref p, .int lim] ∧ SrcAt H p q ∧ 0 < lim ∧ lim < 2 ^ 200 ∧
  ∀ (r : Int) (H' : Hp), 0 ≤ r → r < lim → SrcAt H' p q → But p H H' → Q (.int r) H'
section
variable {P : Program} {w : World} {K : PySem.W.Frag} {mg : Str → Option Value} {base : Heap} {a : Adr}
theorem ok__law_draw (T : Txt K mg base a) : FnOk P w K mg base CX0 1 a.a__law_draw a.d__law_draw ["_law_source_here", "_law_limit"] spDraw := by
  refine T.F__law_draw.ok sc__law_draw (fun vs H Q E h => ?_) (fun cdv A outer s H vs Q E hr h => ?_)
  · obtain ⟨p, q, lim, rfl, _⟩ := h
    rfl
  · obtain ⟨p, q, lim, rfl, ⟨cs, i, big, cnt, st, h1, h2, h3, hi, hb, hl⟩, hl0, hl1, k⟩ := h
    refine ⟨_, (pss_cons (ps_augS (pv 0) pe_int gt_list pe_int ip_add set_list)
 (pss_cons (ps_if (PW.pt (pw_and (pt_cmpR op_eq (pe_ix ix_list (pv 0) pe_int (fun _ _ => rfl)) pe_int (nomark _)) (pw_and1 (pt_cmpR op_lt (pe_ix ix_list (pv 0) pe_int (fun _ _ => rfl)) (pe_callB call_len_seq (by rfl) T.n_len (by decide +kernel) (pa_cons (pe_ix ix_list (pv 0) pe_int (fun _ _ => rfl)) pa_nil)) (nomark _))))) (pss_cons (ps_set (i := 2) sc__law_draw.nd rfl (Or.inl rfl) (pe_ix ix_list (pe_ix ix_list (pv 0) pe_int (fun _ _ => rfl)) (pe_ix ix_list (pv 0) pe_int (fun _ _ => rfl)) (fun _ _ => rfl)))
 (pss_cons (ps_augS (pv 0) pe_int gt_list pe_int ip_add set_list)
 (pss_one (ps_if (pt_cmpR op_ge (pv 2) (pe_powN (z := 1000000000000000000) ⟨by decide, by decide, by decide⟩ (by decide +kernel)) (nomark _)) (pss_one (ps_asg (pv 2) (pg_sub (pv 0) pe_int set_list)))
 (pss_one (ps_asg (pe_op op_modN (pe_callTy call_int1 (by rfl) T.n_int (by decide +kernel) (pa_cons (pe_op op_add (pe_op op_add (pe_op op_mul (pe_ix ix_list (pv 0) pe_int (fun _ _ => rfl)) pe_int) (pe_op op_mul (pv 2) pe_int)) pe_int) pa_nil)) pe_int) (pg_sub (pv 0) pe_int set_list)))))))
 pss_nil)
 (pss_cons (ps_if (pt_cmpR op_gt (pe_ix ix_list (pv 0) pe_int (fun _ _ => rfl)) pe_int (nomark _)) (pss_cons (ps_set (i := 3) sc__law_draw.nd rfl (Or.inl rfl) (pe_op op_modN (pe_callTy call_int1 (by rfl) T.n_int (by decide +kernel) (pa_cons (pe_ix ix_list (pv 0) pe_int (fun _ _ => rfl)) pa_nil)) (pv 1)))
 (pss_cons (ps_asg (pe_op op_fdivW (pe_ix ix_list (pv 0) pe_int (fun _ _ => rfl)) (pv 1)) (pg_sub (pv 0) pe_int set_list))
 (pss_one (ps_ret (pv 3)))))
 pss_nil)
 (pss_cons (ps_set (i := 4) sc__law_draw.nd rfl (Or.inl rfl) (pe_op op_modN (pe_callTy call_int1 (by rfl) T.n_int (by decide +kernel) (pa_cons (pe_op op_mul (pe_op op_add (pe_ix ix_list (pv 0) pe_int (fun _ _ => rfl)) (pe_op op_mul pe_int (pe_ix ix_list (pv 0) pe_int (fun _ _ => rfl)))) pe_int) pa_nil)) pe_int))
 (pss_cons (ps_set (i := 5) sc__law_draw.nd rfl (Or.inl rfl) (pe_op op_modN (pe_callTy call_int1 (by rfl) T.n_int (by decide +kernel) (pa_cons (pe_op op_mul (pv 4) (pe_op op_add (pe_op op_fdivW (pv 4) pe_int) pe_int)) pa_nil)) pe_int))
 (pss_cons (ps_set (i := 6) sc__law_draw.nd rfl (Or.inl rfl) (pe_op op_modN (pe_callTy call_int1 (by rfl) T.n_int (by decide +kernel) (pa_cons (pe_op op_mul (pv 5) (pe_op op_add (pe_op op_fdivW (pv 5) pe_int) pe_int)) pa_nil)) pe_int))
 (pss_one (ps_ret (pe_op op_modN (pe_callTy call_int1 (by rfl) T.n_int (by decide +kernel) (pa_cons (pe_op op_fdivW (pv 6) pe_int) pa_nil)) (pv 1)))))))))), ?_⟩
    -- src[3] += 1
    repeat walk_at "rd"
    with_reducible refine seq_with (fun σ H' => ∃ (i big cnt st : Int) (v : Option V), σ = [some (.ref p), some (.int lim), v, none, none, none, none] ∧ H' p = some (.lst [.ref q, .int i, .int big, .int cnt, .int st]) ∧ H' q = some (.lst (cs.map V.int)) ∧ But p H H' ∧ 0 ≤ i ∧ 0 ≤ big) ?_ (fun rest => ?_)
    · clear h1 h2 hi hb
      rintro σ H' ⟨i, big, cnt, st, v, rfl, hp, hq, bt, hi, hb⟩
      walk_at "rdi"
      repeat walk_at "rd"
      refine ite_d (fun hc => ?_) (fun hc => ?_)
      · repeat walk_at "rd"
        exact k _ _ (fmod_nn hl0) (fmod_lt hl0) ⟨cs, i, _, cnt, st, upd_same, (upd_ne h3).trans hq, h3, hi, Int.ediv_nonneg hb (by omega), hl⟩ (bt.trans But.upd)
      · repeat walk_at "rd"
        exact k _ _ (fmod_nn hl0) (fmod_lt hl0) ⟨cs, i, _, cnt, st, hp, hq, h3, hi, hb, hl⟩ bt
    · have nq : H q ≠ none := by rw [h2]; intro z; cases z
      have hp1 : upd H p (HO.lst ([V.ref q, V.int i, V.int big, V.int cnt, V.int st].set (Int.toNat 3) (V.int (cnt + 1)))) p = some (.lst [.ref q, .int i, .int big, .int (cnt + 1), .int st]) := upd_same
      have hq1 : upd H p (HO.lst ([V.ref q, V.int i, V.int big, V.int cnt, V.int st].set (Int.toNat 3) (V.int (cnt + 1)))) q = some (.lst (cs.map V.int)) := (upd_ne h3).trans h2
      have bt1 : But p H (upd H p (HO.lst ([V.ref q, V.int i, V.int big, V.int cnt, V.int st].set (Int.toNat 3) (V.int (cnt + 1))))) := But.upd
      generalize upd H p (HO.lst ([V.ref q, V.int i, V.int big, V.int cnt, V.int st].set (Int.toNat 3) (V.int (cnt + 1)))) = H1 at hp1 hq1 bt1 ⊢
      clear h1 h2
      have no : ∀ (v : Option V), _ := fun v => rest [some (.ref p), some (.int lim), v, none, none, none, none] H1 ⟨i, big, cnt + 1, st, v, rfl, hp1, hq1, bt1, hi, hb⟩
      repeat walk_at "rd"
      refine ite_d (fun hc => ?_) (fun hc => ?_)
      · repeat walk_at "rd"
        refine ite_d (fun hc2 => ?_) (fun hc2 => ?_)
        · obtain ⟨c, hc3, _⟩ := at_nat (ns := cs) hi hc2
          repeat walk_at "rd"
          refine r_ixL hq1 hc3 ?_
          repeat walk_at "rd"
          refine ite_d (fun hc4 => ?_) (fun hc4 => ?_)
          · repeat walk_at "rd"
            exact rest _ _ ⟨i + 1, c, cnt + 1, st, _, rfl, upd_same, (upd_ne h3).trans ((upd_ne h3).trans hq1), (bt1.trans But.upd).trans But.upd, by omega, by omega⟩
          · repeat walk_at "rd"
            exact rest _ _ ⟨i + 1, big, cnt + 1, _, _, rfl, upd_same, (upd_ne h3).trans ((upd_ne h3).trans hq1), (bt1.trans But.upd).trans But.upd, by omega, by omega⟩
        · ((repeat walk_at "rd"); exact no none)
      · ((repeat walk_at "rd"); exact no none)

def spBig : Sp := fun vs H Q _ => ∃ (p q : Addr) (lim : Int), vs = [.ref p, .int lim] ∧ SrcAt H p q ∧ 0 < lim ∧
  ∀ (r : Int) (H' : Hp), 0 ≤ r → r < lim → SrcAt H' p q → But p H H' → Q (.int r) H'
theorem ok__law_big (T : Txt K mg base a) : FnOk P w K mg base CX0 2 a.a__law_big a.d__law_big ["_law_source_here", "_law_limit"] spBig := by
  refine T.F__law_big.ok sc__law_big (fun vs H Q E h => ?_) (fun cdv A outer s H vs Q E hr h => ?_)
  · obtain ⟨p, q, lim, rfl, _⟩ := h
    rfl
  · obtain ⟨p, q, lim, rfl, hs, hl0, k⟩ := h
    refine ⟨_, (pss_cons (ps_set (i := 2) sc__law_big.nd rfl (Or.inl rfl) pe_int)
 (pss_cons (ps_for (by exact PassesOwn.never) rfl (pi_range1 (by rfl) T.n_range (pa_cons pe_int pa_nil)) (pg_name (i := 3) sc__law_big.nd rfl (Or.inl rfl))
 (pss_one (ps_set (i := 2) sc__law_big.nd rfl (Or.inl rfl) (pe_op op_add (pe_op op_mul (pv 2) pe_int) (pe_call (ok__law_draw T) (hr.mono (by decide)) (by rfl) T.g__law_draw T.F__law_draw.kp T.b__law_draw .nil pass0 (pa_cons (pv 0) (pa_cons pe_int pa_nil)))))))
 (pss_one (ps_ret (pe_op op_modN (pe_callTy call_int1 (by rfl) T.n_int (by decide +kernel) (pa_cons (pv 2) pa_nil)) (pv 1)))))), ?_⟩
    repeat walk_at "rd"
    refine ⟨by decide, by decide, for_range (lo := 0) (n := 5) (fun i σ H' => ∃ (n : Int) (v : Option V), σ = [some (.ref p), some (.int lim), some (.int n), v] ∧ SrcAt H' p q ∧ But p H H') ⟨_, _, rfl, hs, But.refl _ _⟩ ?_ ?_⟩
    · rintro i σ H1 hi ⟨n, v, rfl, hs1, b1⟩
      repeat walk_at "rd"
      refine ⟨p, q, _, rfl, hs1, by decide, by decide, fun r H2 r0 r1 hs2 b2 => ?_⟩
      repeat walk_at "rd"
      exact ⟨_, _, rfl, hs2, b1.trans b2⟩
    · rintro σ H1 ⟨n, v, rfl, hs1, b1⟩
      repeat walk_at "rd"
      exact k _ _ (fmod_nn hl0) (fmod_lt hl0) hs1 b1
end

/-! ### the machine's numbers, its times, whether a thing is an int -/
/-- o, l, g of a machine, at t -/
structure NumAt (H : Hp) (t : Addr) (o l g : Int) : Prop where
  at_ : H t = some (.tup [.int o, .int l, .int g])
  o0 : 0 ≤ o
  o9 : o ≤ 1000000000
  l0 : 0 ≤ l
  l9 : l ≤ 1000000000
  g1 : 1 ≤ g
  g9 : g ≤ 1000000000
  pos : 0 < 2 * o + l
theorem NumAt.keep {H H' : Hp} {t : Addr} {o l g : Int} (N : NumAt H t o l g) (h : H' t = H t) : NumAt H' t o l g := { N with at_ := h.trans N.at_ }
def spNumbers : Sp := fun vs H Q _ => ∃ (p q : Addr), vs = [.ref p] ∧ SrcAt H p q ∧ ∀ (t : Addr) (o l g : Int) (H' : Hp), NumAt H' t o l g → H t = none → SrcAt H' p q → But p H H' → Q (.ref t) H'
def gapOf (o g : Int) : Int := if g > o then g else o
def spTimes : Sp := fun vs H Q _ => ∃ (t : Addr) (o l g : Int), vs = [.ref t] ∧ H t = some (.tup [.int o, .int l, .int g]) ∧ ∀ (u : Addr) (H' : Hp), H u = none → Same H H' → H' u = some (.tup [.int (2 * o + l), .int (gapOf o g)]) → Q (.ref u) H'
def spIs : Sp := fun vs H Q _ => ∃ (i j : Int), vs = [.int i, .int j] ∧ Q (.bl (decide (i = j))) H
def spSource (K : PySem.W.Frag) : Sp := fun vs H Q _ => ∃ (b : Addr) (ns : List Int), vs = [.ref b] ∧ SqL K H b (ns.map V.int) ∧ ns.length ≤ 63 ∧ ∀ (p q : Addr) (H' : Hp), SrcAt H' p q → H p = none → H q = none → Same H H' → Q (.ref p) H'
section
variable {P : Program} {w : World} {K : PySem.W.Frag} {mg : Str → Option Value} {base : Heap} {a : Adr}
theorem ok__law_times (T : Txt K mg base a) : FnOk P w K mg base CX0 1 a.a__law_times a.d__law_times ["_law_numbers_here"] spTimes := by
  refine T.F__law_times.ok sc__law_times (fun vs H Q E h => ?_) (fun cdv A outer s H vs Q E hr h => ?_)
  · obtain ⟨t, o, l, g, rfl, _⟩ := h
    rfl
  · obtain ⟨t, o, l, g, rfl, ht, k⟩ := h
    refine ⟨_, (pss_one (ps_ret (pe_tup (pa_cons (pe_op op_add (pe_op op_mul pe_int (pe_ix ix_tup (pv 0) pe_int (fun _ _ => rfl))) (pe_ix ix_tup (pv 0) pe_int (fun _ _ => rfl))) (pa_cons (pe_callB (call_max2 rfl) (by rfl) T.n_max (by decide +kernel) (pa_cons (pe_ix ix_tup (pv 0) pe_int (fun _ _ => rfl)) (pa_cons (pe_ix ix_tup (pv 0) pe_int (fun _ _ => rfl)) pa_nil))) pa_nil))))), ?_⟩
    repeat walk_at "rd"
    exact new_at (Nat.le_of_ble_eq_true rfl) k
theorem ok__law_source (T : Txt K mg base a) : FnOk P w K mg base CX0 1 a.a__law_source a.d__law_source ["_law_script"] (spSource K) := by
  refine T.F__law_source.ok sc__law_source (fun vs H Q E h => ?_) (fun cdv A outer s H vs Q E hr h => ?_)
  · obtain ⟨i, j, rfl, _⟩ := h
    rfl
  · obtain ⟨b, ns, rfl, hS, hl, k⟩ := h
    refine ⟨_, (pss_one (ps_ret (pe_lst (pa_cons (pe_lc (own := [("_law_cell", 1)]) (g := gName 1) (tt := tYes) rfl sc__law_source.nd (pi_list (pe_slice sl_list (pv 0) po_none (po_some pe_int))) (blkOk_by (own := [("_law_cell", 1)]) (N := ["_law_script", "_law_cell"]) (sc := defScope s__law_source) (by decide +kernel)) (fun _ _ _ _ _ => (pg_name (i := 1) sc__law_source.nd rfl (Or.inl rfl))) (fun _ _ _ _ _ => pts_nil) (fun _ _ _ _ _ => (pe_callTy call_int1 (by rfl) T.n_int (by decide +kernel) (pa_cons (pv 1) pa_nil)))) (pa_cons pe_int (pa_cons pe_int (pa_cons pe_int (pa_cons pe_int pa_nil)))))))), ?_⟩
    repeat walk_at "rd"
    refine r_slL hS (fun p0 H1 n0 s1 e0 => ?_)
    rw [cut_take (by rw [List.length_map]; omega)] at e0
    refine ⟨p0, rfl, ⟨_, SqL.of e0⟩, fun D hD => lc_list (K := K) (a := p0) (xs := ns.map V.int) (fun i H' => H' D = some (.lst ((ns.take i).map V.int)) ∧ H' p0 = some (.lst (ns.map V.int)) ∧ Same H H') ?_ (fun i H' _ h => SqL.of h.2.1) ?_ ?_⟩
    · exact ⟨upd_same, (upd_ne (ne_of_none e0 hD)).trans e0, s1.trans (Same.new hD)⟩
    · rintro i x H2 hi ⟨h1, h2, h3⟩
      obtain ⟨z, hz, rfl⟩ := int_of_get hi
      repeat walk_at "rd"
      refine ⟨rfl, ?_⟩
      repeat walk_at "rd"
      have nD : H D = none := s1.free hD
      refine ⟨_, h1, small1000 (by rw [List.length_map, List.length_take]; omega), ?_, (upd_ne (ne_of_none e0 hD)).trans h2, h3.over nD h1⟩
      rw [upd_same, take_more hz, List.map_append]
      rfl
    · rintro H2 ⟨h1, h2, h3⟩
      repeat walk_at "rd"
      refine new_at (Nat.le_of_ble_eq_true rfl) (fun p H3 np s3 e3 => ?_)
      rw [List.length_map, List.take_length] at h1
      exact k p D _ ⟨ns, 0, 0, 0, 7, e3, s3 _ _ h1, ne_of_none h1 np, by decide, by decide, hl⟩ (h3.free np) (s1.free hD) (h3.trans s3)
theorem ok__law_numbers (T : Txt K mg base a) : FnOk P w K mg base CX0 3 a.a__law_numbers a.d__law_numbers ["_law_source_here"] spNumbers := by
  refine T.F__law_numbers.ok sc__law_numbers (fun vs H Q E h => ?_) (fun cdv A outer s H vs Q E hr h => ?_)
  · obtain ⟨p, q, rfl, _⟩ := h
    rfl
  · obtain ⟨p, q, rfl, hs, k⟩ := h
    refine ⟨_, (pss_cons (ps_set (i := 1) sc__law_numbers.nd rfl (Or.inl rfl) (pe_call (ok__law_draw T) (hr.mono (by decide)) (by rfl) T.g__law_draw T.F__law_draw.kp T.b__law_draw .nil pass0 (pa_cons (pv 0) (pa_cons pe_int pa_nil))))
 (pss_cons (ps_set (i := 2) sc__law_numbers.nd rfl (Or.inl rfl) (pe_ix ix_list (pe_lst (pa_cons (pe_tup (pa_cons pe_int (pa_cons pe_int (pa_cons pe_int pa_nil)))) (pa_cons (pe_tup (pa_cons pe_int (pa_cons pe_int (pa_cons pe_int pa_nil)))) (pa_cons (pe_tup (pa_cons pe_int (pa_cons pe_int (pa_cons pe_int pa_nil)))) (pa_cons (pe_tup (pa_cons pe_int (pa_cons pe_int (pa_cons pe_int pa_nil)))) (pa_cons (pe_tup (pa_cons pe_int (pa_cons pe_int (pa_cons pe_int pa_nil)))) (pa_cons (pe_tup (pa_cons (pe_op op_add (pe_powN (z := 1000000000) ⟨by decide, by decide, by decide⟩ (by decide +kernel)) pe_int) (pa_cons (pe_op op_add (pe_powN (z := 1000000000) ⟨by decide, by decide, by decide⟩ (by decide +kernel)) pe_int) (pa_cons (pe_powN (z := 1000000000) ⟨by decide, by decide, by decide⟩ (by decide +kernel)) pa_nil)))) pa_nil))))))) (pv 1) (fun _ _ => rfl)))
 (pss_cons (ps_set (i := 3) sc__law_numbers.nd rfl (Or.inl rfl) (pe_call (ok__law_big T) (hr.mono (by decide)) (by rfl) T.g__law_big T.F__law_big.kp T.b__law_big .nil pass0 (pa_cons (pv 0) (pa_cons (pe_ix ix_tup (pv 2) pe_int (fun _ _ => rfl)) pa_nil))))
 (pss_cons (ps_set (i := 4) sc__law_numbers.nd rfl (Or.inl rfl) (pe_call (ok__law_big T) (hr.mono (by decide)) (by rfl) T.g__law_big T.F__law_big.kp T.b__law_big .nil pass0 (pa_cons (pv 0) (pa_cons (pe_ix ix_tup (pv 2) pe_int (fun _ _ => rfl)) pa_nil))))
 (pss_cons (ps_set (i := 5) sc__law_numbers.nd rfl (Or.inl rfl) (pe_op op_add pe_int (pe_call (ok__law_big T) (hr.mono (by decide)) (by rfl) T.g__law_big T.F__law_big.kp T.b__law_big .nil pass0 (pa_cons (pv 0) (pa_cons (pe_ix ix_tup (pv 2) pe_int (fun _ _ => rfl)) pa_nil)))))
 (pss_cons (ps_if (pt_cmpR op_eq (pe_op op_add (pe_op op_mul pe_int (pv 3)) (pv 4)) pe_int (nomark _)) (pss_one (ps_set (i := 4) sc__law_numbers.nd rfl (Or.inl rfl) pe_int))
 pss_nil)
 (pss_one (ps_ret (pe_tup (pa_cons (pv 3) (pa_cons (pv 4) (pa_cons (pv 5) pa_nil)))))))))))), ?_⟩
    repeat walk_at "rd"
    refine ⟨p, q, 6, rfl, hs, by decide, by decide, fun kind H1 k0 k6 hs1 b1 => ?_⟩
    repeat walk_at "rd"
    refine new_at (Nat.le_of_ble_eq_true rfl) (fun t1 H2 n1 s1 e1 => ?_)
    repeat walk_at "rd"
    refine new_at (Nat.le_of_ble_eq_true rfl) (fun t2 H3 n2 s2 e2 => ?_)
    repeat walk_at "rd"
    refine new_at (Nat.le_of_ble_eq_true rfl) (fun t3 H4 n3 s3 e3 => ?_)
    repeat walk_at "rd"
    refine new_at (Nat.le_of_ble_eq_true rfl) (fun t4 H5 n4 s4 e4 => ?_)
    repeat walk_at "rd"
    refine new_at (Nat.le_of_ble_eq_true rfl) (fun t5 H6 n5 s5 e5 => ?_)
    repeat walk_at "rd"
    refine new_at (Nat.le_of_ble_eq_true rfl) (fun t6 H7 n6 s6 e6 => ?_)
    repeat walk_at "rd"
    refine new_at (Nat.le_of_ble_eq_true rfl) (fun tl H8 n7 s7 e7 => ?_)
    obtain ⟨t, A, B, C, hat, et, nt, hA, hB, hC⟩ : ∃ (t : Addr) (A B C : Int), atI [V.ref t1, V.ref t2, V.ref t3, V.ref t4, V.ref t5, V.ref t6] kind = some (.ref t) ∧ H8 t = some (.tup [.int A, .int B, .int C]) ∧ t ≠ p ∧ (1 ≤ A ∧ A ≤ 1000000001) ∧ (1 ≤ B ∧ B ≤ 1000000001) ∧ 1 ≤ C ∧ C ≤ 1000000000 := by
      have hk : kind = 0 ∨ kind = 1 ∨ kind = 2 ∨ kind = 3 ∨ kind = 4 ∨ kind = 5 := by omega
      rcases hk with rfl | rfl | rfl | rfl | rfl | rfl
      · exact ⟨t1, _, _, _, rfl, by walk_at "hp", by walk_at "ne", by decide, by decide, by decide⟩
      · exact ⟨t2, _, _, _, rfl, by walk_at "hp", by walk_at "ne", by decide, by decide, by decide⟩
      · exact ⟨t3, _, _, _, rfl, by walk_at "hp", by walk_at "ne", by decide, by decide, by decide⟩
      · exact ⟨t4, _, _, _, rfl, by walk_at "hp", by walk_at "ne", by decide, by decide, by decide⟩
      · exact ⟨t5, _, _, _, rfl, by walk_at "hp", by walk_at "ne", by decide, by decide, by decide⟩
      · exact ⟨t6, _, _, _, rfl, by walk_at "hp", by walk_at "ne", by decide, by decide, by decide⟩
    have hs8 : SrcAt H8 p q := by walk_at "src"
    have b8 : But p H H8 := b1.trans (But.of_same (s1.trans (s2.trans (s3.trans (s4.trans (s5.trans (s6.trans s7)))))))
    repeat walk_at "rd"
    refine r_ixL e7 hat ?_
    clear e1 e2 e3 e4 e5 e6 s1 s2 s3 s4 s5 s6 s7 n1 n2 n3 n4 n5 n6 b1 hat e7
    repeat walk_at "rd"
    refine ⟨p, q, A, rfl, hs8, by omega, fun o H9 o0 oA hs9 b9 => ?_⟩
    repeat walk_at "rd"
    refine ⟨p, q, B, rfl, hs9, by omega, fun l H10 l0 lB hs10 b10 => ?_⟩
    repeat walk_at "rd"
    refine ⟨p, q, C, rfl, hs10, by omega, fun g H11 g0 gC hs11 b11 => ?_⟩
    have b12 : But p H H11 := ((b8.trans b9).trans b10).trans b11
    repeat walk_at "rd"
    with_reducible refine seq_with (fun σ H' => ∃ (l' : Int), σ = [some (.ref p), some (.int kind), some (.ref t), some (.int o), some (.int l'), some (.int (1 + g))] ∧ H' = H11 ∧ 0 < 2 * o + l' ∧ 0 ≤ l' ∧ l' ≤ 1000000000) ?_ (fun rest => ?_)
    · rintro σ H' ⟨l', rfl, rfl, h1, h2, h3⟩
      repeat walk_at "rd"
      refine new_at (Nat.le_of_ble_eq_true rfl) (fun u H12 nu su eu => ?_)
      have nH : H u = none := b12.free hs11 nu
      exact k u o l' (1 + g) _ ⟨eu, o0, by omega, h2, h3, by omega, by omega, h1⟩ nH (hs11.keep su) (b12.trans (But.of_same su))
    · repeat walk_at "rd"
      refine ite_d (fun hc => ?_) (fun hc => ?_)
      · iterate 3 walk_at "rd"
        exact rest _ _ ⟨1, rfl, rfl, by omega, by omega, by omega⟩
      · walk_at "rd"
        exact rest _ _ ⟨l, rfl, rfl, by omega, by omega, by omega⟩
end

/-! ### integers, machines -/
/-- whether the value is an int and no bool -/
def IntV (K : PySem.W.Frag) (H : Hp) (x : V) (b : Bool) : Prop := ∃ (t : Value) (b1 b2 : Bool), TyX K H x t ∧ PySem.W.kitOne K t (.type "int") = some b1 ∧ PySem.W.kitOne K t (.type "bool") = some b2 ∧ b = (b1 && !b2)
theorem IntV.int {K : PySem.W.Frag} {H : Hp} {i : Int} : IntV K H (.int i) true := ⟨_, true, false, .base (.int i), kit_ty (by decide +kernel), kit_ty (by decide +kernel), rfl⟩
theorem r_isi {K : PySem.W.Frag} {H : Hp} {Q : VK} {x : V} {t : Value} {n : String} {b : Bool} (ty : TyX K H x t) (h : PySem.W.kitOne K t (.type n) = some b) (q : Q (.bl b) H) : rIsi K [x, .ty n] H Q := ⟨_, _, t, .type n, b, rfl, .ty n, ty, h, q⟩
def spIsInteger (K : PySem.W.Frag) : Sp := fun vs H Q _ => ∃ (x : V) (b : Bool), vs = [x] ∧ IntV K H x b ∧ Q (.bl b) H
def spBetween (K : PySem.W.Frag) : Sp := fun vs H Q _ => ∃ (x : V) (lo hi : Int) (b : Bool), vs = [x, .int lo, .int hi] ∧ IntV K H x b ∧ (b = false → Q (.bl false) H) ∧ (b = true → ∃ i, x = .int i ∧ Q (.bl (decide (lo ≤ i ∧ i ≤ hi))) H)
theorem r_between {K : PySem.W.Frag} {H : Hp} {Q : VK} {E : XK} {i lo hi : Int} (q : Q (.bl (decide (lo ≤ i ∧ i ≤ hi))) H) : spBetween K [.int i, .int lo, .int hi] H Q E := ⟨_, lo, hi, true, rfl, IntV.int, (fun z => Bool.noConfusion z), fun _ => ⟨i, rfl, q⟩⟩
/-- the attributes of a machine -/
def mf (o l g : Int) : List (Str × V) := putF "gap" (.int (gapOf o g)) (putF "letter" (.int (2 * o + l)) (putF "g" (.int g) (putF "l" (.int l) (putF "o" (.int o) []))))
def MachAt (C : Addr) (H : Hp) (m : Addr) (o l g : Int) : Prop := ∃ dx, H m = some (.ins C dx (mf o l g))
theorem MachAt.keep {C m : Addr} {H H' : Hp} {o l g : Int} (h : MachAt C H m o l g) (s : Same H H') : MachAt C H' m o l g := let ⟨dx, e⟩ := h; ⟨dx, s _ _ e⟩
theorem mf_o {o l g : Int} : (mf o l g).lookup ("o" : Str) = some (.int o) := by unfold mf; walk_at "lk"
theorem mf_l {o l g : Int} : (mf o l g).lookup ("l" : Str) = some (.int l) := by unfold mf; walk_at "lk"
theorem mf_g {o l g : Int} : (mf o l g).lookup ("g" : Str) = some (.int g) := by unfold mf; walk_at "lk"
theorem mf_letter {o l g : Int} : (mf o l g).lookup ("letter" : Str) = some (.int (2 * o + l)) := by unfold mf; walk_at "lk"
theorem mf_gap {o l g : Int} : (mf o l g).lookup ("gap" : Str) = some (.int (gapOf o g)) := by unfold mf; walk_at "lk"
theorem MachAt.but {C m p : Addr} {H H' : Hp} {o l g : Int} (h : MachAt C H m o l g) (s : But p H H') (n : m ≠ p) : MachAt C H' m o l g := let ⟨dx, e⟩ := h; ⟨dx, s _ _ e n⟩
def spMachine (C : Addr) : Sp := fun vs H Q _ => ∃ (m dx : Addr) (o l g : Int), vs = [.ref m, .int o, .int l, .int g] ∧ H m = some (.ins C dx []) ∧ (0 ≤ o ∧ o ≤ 1000000000) ∧ (0 ≤ l ∧ l ≤ 1000000000) ∧ (1 ≤ g ∧ g ≤ 1000000000) ∧ 0 < 2 * o + l ∧ ∀ H', MachAt C H' m o l g → But m H H' → Q .non H'
local macro_rules | `(tactic| walk_at "lk") => `(tactic| first | exact mf_o | exact mf_l | exact mf_g | exact mf_letter | exact mf_gap)
section
variable {P : Program} {w : World} {K : PySem.W.Frag} {mg : Str → Option Value} {base : Heap} {a : Adr}
theorem ok_is_integer (T : Txt K mg base a) : FnOk P w K mg base CX0 1 a.a_is_integer a.d_is_integer ["thing"] (spIsInteger K) := by
  refine T.F_is_integer.ok sc_is_integer (fun vs H Q E h => ?_) (fun cdv A outer s H vs Q E hr h => ?_)
  · obtain ⟨x, b, rfl, _⟩ := h
    rfl
  · obtain ⟨x, b, rfl, ⟨t, b1, b2, ty, h1, h2, rfl⟩, k⟩ := h
    refine ⟨_, (pss_one (ps_ret (pe_and (pe_callB call_isi (by rfl) T.n_isinstance (by decide +kernel) (pa_cons (pv 0) (pa_cons (pe_bltn (v := .ty "int") (u := .type "int") (by rfl) T.n_int (by decide +kernel) rfl) pa_nil))) (pe_one (pe_not (pe_callB call_isi (by rfl) T.n_isinstance (by decide +kernel) (pa_cons (pv 0) (pa_cons (pe_bltn (v := .ty "bool") (u := .type "bool") (by rfl) T.n_bool (by decide +kernel) rfl) pa_nil)))))))), ?_⟩
    repeat walk_at "rd"
    refine r_isi ty h1 ?_
    refine ⟨b1, rfl, ?_⟩
    cases b1 with
    | false => exact iteF k
    | true =>
      repeat walk_at "rd"
      refine r_isi ty h2 ?_
      exact ⟨b2, rfl, k⟩
theorem ok_is_between (T : Txt K mg base a) : FnOk P w K mg base CX0 2 a.a_is_between a.d_is_between ["thing", "low", "high"] (spBetween K) := by
  refine T.F_is_between.ok sc_is_between (fun vs H Q E h => ?_) (fun cdv A outer s H vs Q E hr h => ?_)
  · obtain ⟨x, lo, hi, b, rfl, _⟩ := h
    rfl
  · obtain ⟨x, lo, hi, b, rfl, iv, k0, k1⟩ := h
    refine ⟨_, (pss_one (ps_ret (pe_and (pe_call (ok_is_integer T) (hr.mono (by decide)) (by rfl) T.g_is_integer T.F_is_integer.kp T.b_is_integer .nil pass0 (pa_cons (pv 0) pa_nil)) (pe_one (pe_chain op_le op_le (pv 1) (pv 0) (pv 2)))))), ?_⟩
    repeat walk_at "rd"
    refine ⟨x, b, rfl, iv, ?_⟩
    refine ⟨b, rfl, ?_⟩
    cases b with
    | false => exact iteF (k0 rfl)
    | true =>
      obtain ⟨i, rfl, q⟩ := k1 rfl
      repeat walk_at "rd"
      refine ite_d (fun h1 => ?_) (fun h1 => ?_)
      · repeat walk_at "rd"
        rw [decide_eq_decide.mpr (show lo ≤ i ∧ i ≤ hi ↔ i ≤ hi from ⟨fun h => h.2, fun h => ⟨h1, h⟩⟩)] at q
        exact q
      · rw [decide_eq_false (show ¬ (lo ≤ i ∧ i ≤ hi) from fun h => h1 h.1)] at q
        exact q
theorem ok_Machine_init (T : Txt K mg base a) : FnOk P w K mg base CX0 3 a.a_Machine_init a.d_Machine_init ["self", "o", "l", "g"] (spMachine a.c_Machine) := by
  refine T.F_Machine_init.ok sc_Machine_init (fun vs H Q E h => ?_) (fun cdv A outer s H vs Q E hr h => ?_)
  · obtain ⟨m, dx, o, l, g, rfl, _⟩ := h
    rfl
  · obtain ⟨m, dx, o, l, g, rfl, hm, ho, hl, hg, hp, k⟩ := h
    refine ⟨_, (pss_cons (ps_if (pt_not (pt_val (pe_call (ok_is_between T) (hr.mono (by decide)) (by rfl) T.g_is_between T.F_is_between.kp T.b_is_between .nil pass0 (pa_cons (pv 1) (pa_cons pe_int (pa_cons (pe_glob (v := .int 1000000000) (by rfl) T.g_GREATEST_PART.choose_spec ⟨_, rfl⟩) pa_nil)))))) (pss_one ps_never)
 pss_nil)
 (pss_cons (ps_if (pt_not (pt_val (pe_call (ok_is_between T) (hr.mono (by decide)) (by rfl) T.g_is_between T.F_is_between.kp T.b_is_between .nil pass0 (pa_cons (pv 2) (pa_cons pe_int (pa_cons (pe_glob (v := .int 1000000000) (by rfl) T.g_GREATEST_PART.choose_spec ⟨_, rfl⟩) pa_nil)))))) (pss_one ps_never)
 pss_nil)
 (pss_cons (ps_if (pt_not (pt_val (pe_call (ok_is_between T) (hr.mono (by decide)) (by rfl) T.g_is_between T.F_is_between.kp T.b_is_between .nil pass0 (pa_cons (pv 3) (pa_cons pe_int (pa_cons (pe_glob (v := .int 1000000000) (by rfl) T.g_GREATEST_PART.choose_spec ⟨_, rfl⟩) pa_nil)))))) (pss_one ps_never)
 pss_nil)
 (pss_cons (ps_if (pt_cmpR op_eq (pe_op op_add (pe_op op_mul pe_int (pv 1)) (pv 2)) pe_int (nomark _)) (pss_one ps_never)
 pss_nil)
 (pss_cons (ps_fld (pv 0) (pv 1) rfl)
 (pss_cons (ps_fld (pv 0) (pv 2) rfl)
 (pss_cons (ps_fld (pv 0) (pv 3) rfl)
 (pss_cons (ps_fld (pv 0) (pe_op op_add (pe_op op_mul pe_int (pv 1)) (pv 2)) rfl)
 (pss_one (ps_fld (pv 0) (pe_callB (call_max2 rfl) (by rfl) T.n_max (by decide +kernel) (pa_cons (pv 1) (pa_cons (pv 3) pa_nil))) rfl)))))))))), ?_⟩
    walk_at "rdi"
    repeat walk_at "rd"
    refine r_between ?_
    repeat walk_at "rd"
    refine r_nD (fun h => absurd ho h) (fun _ => ?_)
    walk_at "rd"
    walk_at "rdi"
    repeat walk_at "rd"
    refine r_between ?_
    repeat walk_at "rd"
    refine r_nD (fun h => absurd hl h) (fun _ => ?_)
    walk_at "rd"
    walk_at "rdi"
    repeat walk_at "rd"
    refine r_between ?_
    repeat walk_at "rd"
    refine r_nD (fun h => absurd hg h) (fun _ => ?_)
    walk_at "rd"
    walk_at "rdi"
    repeat walk_at "rd"
    refine ite_d (fun h => absurd h (by omega)) (fun _ => ?_)
    repeat walk_at "rd"
    refine k _ ⟨dx, ?_⟩ ?_
    · exact upd_same
    · exact But.upd.trans (But.upd.trans (But.upd.trans (But.upd.trans But.upd)))
end

/-! ### own rules: C(..) by a local name, x op y by an own def, targets in a tuple -/
/-- the slot n holds the class at C: a new instance -/
def tMakeL (n : Nat) (C : Addr) (sp : Sp) (dvs : List V) (E : XK) (t : TA) : TE := fun σ H Q => σ[n]? = some (some (.ref C)) ∧ tMake C sp dvs E t σ H Q
/-- x op y, x an instance with a dict, y of a known type -/
def rOwnD (K : PySem.W.Frag) (C : Addr) (sp : Sp) (E : XK) : R2 := fun x y H Q => ∃ m dx fs tb, x = .ref m ∧ H m = some (.ins C dx fs) ∧ TyX K H y tb ∧ PySem.W.notFirst K C tb = true ∧ sp [x, y] H Q E
section
variable {X : Cx} {CX : CXT} {k i : Nat} {f C : Addr} {fd : FuncData} {ps : List Str} {sp : Sp} {dvs : List V} {ds : List Value} {E : XK} {x : Str} {p pos : Pos} {e : Expr} {es : List Expr} {t : TA}
theorem pe_makeL (M : Mk X.K C f) (F : FnOk X.prog X.w X.K X.mg X.base CX k f fd ps sp) (hr : Room (k + 1) X.A) (hN : X.N[i]? = some x) (hv : Vis X.env.scope x) (hb : Binds X.K fd ps ds) (hd : Vals dvs ds) (hx : Passes CX X E) (ha : PA X (e :: es) t)
    (hdb : (x == ("__debug__" : Str)) = false := by decide) (hcd : (x == ("__classdict__" : Str)) = false := by decide)
    (he : starEach (e :: es) X.env = (false, eval e X.env) :: starEach es X.env := by rfl) (hpl : (backTo pos (starEach es X.env)).any (·.1) = false := by rfl) : PE X (.Call (.Name x p) (e :: es) [] pos) (tMakeL i C sp dvs E t) := by
  refine ⟨fun pins s σ H Q I h => wpAny_Call_Name_kw (thn ((pe_var (pos := p) hN hv hdb hcd).run pins s σ H (fun v H1 => v = .ref C ∧ H1 = H) I ⟨.ref C, h.1, rfl, rfl⟩) fun u s1 g => ?_)⟩
  obtain ⟨v, H1, J, r1, rfl, rfl⟩ := g
  cases r1
  exact PySem.W.callWith_K (h₀ := X.base) J.ok.mod.kin M.kp (thn (ha.run pos pins s1 σ _ _ J h.2) fun us s2 ⟨vs, H2, J2, r, q⟩ => ⟨J2.kIn, run_make M F hr hb hd hx J2 r q⟩) he hpl
theorem op_ownD {op : CmpOp} {g : Addr} {n : Nat} (hop : ∀ a b, compareOp op a b = richCompare op a b) (hs : PySem.W.findIn X.K (.ref C) (cmpInfo op).2.1 = some (some (.ref g))) (hf : PySem.W.isFn X.K (.ref g) = true) (F : FnR X.prog X.w X.K X.mg X.base CX n g sp)
    (hr : Room n X.A) (hx : Passes CX X E) : OpR X (compareOp op) (rOwnD X.K C sp E) := by
  intro pins s σ H x y v u Q I rx ry h
  obtain ⟨m, dx, fs, tb, rfl, hm, ty, hn, q⟩ := h
  obtain rfl : v = Value.ref m := rx
  obtain ⟨mA, J, _⟩ := ins_get I.hok hm
  obtain ⟨od, J, _⟩ := J.look
  obtain ⟨Pk, Z, pz, _⟩ := kit_of I ry ty
  obtain ⟨mF, hF⟩ := I.fr
  rw [hop]
  refine PySem.W.cmp_K (op := op) (tb := tb) hr.units0 hF I.ok.mod.kin J (Z.ty _ _ I.kIn pz) hn hs hf ?_
  refine wpAny_mono (wpAny_call (run_fnR (us := [.ref m, u]) (vs := [.ref m, y]) F hr hx I (.cons rfl (.cons ry .nil)) q)) (fun w s' z => ?_) fun _ _ x => x
  exact (let ⟨z', H', I', rz, qz⟩ := z; SlX.cmpback rz ⟨z', H', I', rz, qz⟩)
end
theorem kit_self {K : PySem.W.Frag} {C : Addr} : PySem.W.kitOne K (.ref C) (.ref C) = some true := by
  unfold PySem.W.kitOne
  rw [if_pos (by simp)]
theorem kit_no {K : PySem.W.Frag} {C : Addr} {n : String} (h1 : PySem.W.isClsIn K C = true) (h2 : PySem.W.typeIn K (.ref C) = some (.type "type")) (h3 : PySem.W.subIn K (.type n) (.ref C) = some false) : PySem.W.kitOne K (.type n) (.ref C) = some false := by
  have e : ((PySem.W.clsIn K C).isSome && PySem.W.typeIn K (.ref C) == some (.type "type")) = true := by
    rw [show (PySem.W.clsIn K C).isSome = true from h1, h2]
    rfl
  unfold PySem.W.kitOne
  rw [if_neg (by simp)]
  show (if ((PySem.W.clsIn K C).isSome && PySem.W.typeIn K (.ref C) == some (.type "type")) = true then PySem.W.subIn K (.type n) (.ref C) else none) = some false
  rw [if_pos e]
  exact h3
theorem nf_self {K : PySem.W.Frag} {C : Addr} : PySem.W.notFirst K C (.ref C) = true := by
  unfold PySem.W.notFirst
  simp
theorem nf_no {K : PySem.W.Frag} {C : Addr} {n : String} (h3 : PySem.W.subIn K (.type n) (.ref C) = some false) : PySem.W.notFirst K C (.type n) = true := by
  unfold PySem.W.notFirst
  rw [h3]
  simp
section
variable {K : PySem.W.Frag} {σ : St} {H : Hp} {Q : VK} {R : St → Hp → Prop} {n : Nat} {v : V} {vs : List V}
theorem r_gTup {t : TGs} {p : Addr} (h : H p = some (.tup vs)) (hl : vs.length = n) (q : t vs σ H R) : gTup K n t (.ref p) σ H R := ⟨p, vs, rfl, SqT.of h, hl, q⟩
theorem r_gCons {t : TG} {u : TGs} (h : t v σ H fun σ' H' => u vs σ' H' R) : gCons t u (v :: vs) σ H R := ⟨v, vs, rfl, h⟩
theorem r_gNil (h : R σ H) : gNil [] σ H R := ⟨rfl, h⟩
theorem r_par {i j : Nat} {ta : TA} {D : Ends} (h : ta σ H fun vs H1 => ∃ v w, vs = [v, w] ∧ D.nx ((σ.set i (some v)).set j (some w)) H1) : tPar i j ta D σ H := h
theorem r_par3 {i j l : Nat} {ta : TA} {D : Ends} (h : ta σ H fun vs H1 => ∃ u v w, vs = [u, v, w] ∧ D.nx (((σ.set i (some u)).set j (some v)).set l (some w)) H1) : tPar3 i j l ta D σ H := h
theorem r_ex2 {u v : V} {R : V → V → Prop} (q : R u v) : ∃ x y, [u, v] = [x, y] ∧ R x y := ⟨_, _, rfl, q⟩
theorem r_ex3 {u v w : V} {R : V → V → V → Prop} (q : R u v w) : ∃ x y z, [u, v, w] = [x, y, z] ∧ R x y z := ⟨_, _, _, rfl, q⟩
theorem r_nDT {c A B : Prop} [Decidable c] (hc : c) (h : B) : if (!decide c) = true then A else B := r_nD (fun z => absurd hc z) fun _ => h
theorem r_neB {a b : Bool} (q : Q (.bl (!decide (a = b))) H) : rNe (.bl a) (.bl b) H Q := ⟨rfl, by
  have e : decide (V.bl a = V.bl b) = decide (a = b) := by cases a <;> cases b <;> decide
  rw [e]; exact q⟩
theorem r_isB {a b : Bool} (q : Q (.bl (decide (a = b))) H) : rIsB (.bl a) (.bl b) H Q := ⟨a, b, rfl, rfl, q⟩
theorem r_notB {a b : Bool} (q : Q (.bl (!decide (a = b))) H) : rNotB (.bl a) (.bl b) H Q := ⟨a, b, rfl, rfl, q⟩
theorem r_dnew (k : ∀ p H', H p = none → Same H H' → H' p = some (.dK []) → Q (.ref p) H') : tDNewK σ H Q := new_of k
theorem r_makeL {C : Addr} {sp : Sp} {dvs : List V} {E : XK} {t : TA} (e : σ[n]? = some (some (.ref C))) (h : tMake C sp dvs E t σ H Q) : tMakeL n C sp dvs E t σ H Q := ⟨e, h⟩
theorem r_cmeth {C : Addr} {sp : Sp} {E : XK} {t : TA} (h : t σ H fun vs H2 => sp (.ref C :: vs) H2 Q E) : ClX.tCMeth C sp E (tC (.ref C)) t σ H Q := ⟨rfl, h⟩
theorem eq_ints {xs ys : List Int} : PyData.eqvAll (xs.map PyData.int) (ys.map PyData.int) = decide (xs = ys) := by
  induction xs generalizing ys with
  | nil => cases ys <;> rfl
  | cons x xs ih =>
    cases ys with
    | nil => rfl
    | cons y ys =>
      show (PyData.eqv (.int x) (.int y) && PyData.eqvAll (xs.map PyData.int) (ys.map PyData.int)) = _
      rw [ih]
      show ((x == y) && decide (xs = ys)) = _
      by_cases h : x = y
      · subst h; simp
      · simp [h]
theorem dp_ints (xs : List Int) : DpAll K H (xs.map V.int) (xs.map PyData.int) := by
  induction xs with
  | nil => exact .nil
  | cons x xs ih => exact .cons (.int x) ih
/-- == of two tuples of ints -/
theorem r_eqT {p q : Addr} {xs ys : List Int} (h1 : H p = some (.tup (xs.map V.int))) (h2 : H q = some (.tup (ys.map V.int))) (s1 : SeqAt.shaped (.tuple (xs.map PyData.int)) = true) (s2 : SeqAt.shaped (.tuple (ys.map PyData.int)) = true)
    (k : Q (.bl (decide (xs = ys))) H) : rEqD K (.ref p) (.ref q) H Q := ⟨_, _, .tup (SqT.of h1) (dp_ints xs), .tup (SqT.of h2) (dp_ints ys), s1, s2, by
  show Q (.bl (PyData.eqvAll (xs.map PyData.int) (ys.map PyData.int))) H
  rw [eq_ints]; exact k⟩
end
theorem r_Machine {C : Addr} {H : Hp} {Q : VK} {E : XK} {o l g : Int} (ho : 0 ≤ o ∧ o ≤ 1000000000) (hl : 0 ≤ l ∧ l ≤ 1000000000) (hg : 1 ≤ g ∧ g ≤ 1000000000) (hp : 0 < 2 * o + l) (k : ∀ m H', H m = none → MachAt C H' m o l g → Same H H' → Q (.ref m) H') :
    MakeAt C (spMachine C) ([.int o, .int l, .int g] ++ []) E H Q :=
  fun x dx nx nd _ => ⟨x, dx, o, l, g, rfl, upd_same, ho, hl, hg, hp, fun H' hm bt => ⟨rfl, k x H' nx hm (Same.made nx nd bt)⟩⟩

local macro_rules | `(tactic| walk_at "rd") => `(tactic| with_reducible first
  | (refine' r_gTup ?hp ?hl ?_; (case hp => walk_at "hp"); (case hl => with_unfolding_all exact rfl))
  | refine r_gCons ?_
  | refine r_gNil ?_
  | refine r_par ?_
  | refine r_par3 ?_
  | refine r_ex2 ?_
  | refine r_ex3 ?_
  | refine r_nDT rfl ?_
  | refine r_neB ?_
  | refine r_isB ?_
  | refine r_notB ?_
  | refine r_cmeth ?_
  | (refine' r_makeL ?he ?_; (case he => with_unfolding_all exact rfl))
  | refine r_isiB true (by decide +kernel) ?_
  | refine r_isiB false (by decide +kernel) ?_
  | refine r_callN ?_
  | refine r_andV ?_)

/-! ### enumerate over a tuple -/
open PySem.AutoSeq1 (wpAny_loadPart') in
theorem en_newT (p : Addr) (its : Array Value) (n : Nat) (dd : Option Addr) (sl : Array (Option Value)) :
    Meets (Builtin.«enumerate.__new__» ⟨[.type "enumerate", .ref p], []⟩) (fun _ R s => s.heap.get? p = some { cls := .type "tuple", dict := dd, data := .seq its n, slots := sl } ∧
      R (.ok (.ret (.ref (s.heap.push { cls := .type "tuple_iterator", data := .fields #[.ref p, .int 0 0] }).objs.size)))
        { s with heap := (s.heap.push { cls := .type "tuple_iterator", data := .fields #[.ref p, .int 0 0] }).push { cls := .type "enumerate", data := .fields #[.none, .bool false, .ref s.heap.objs.size, rawInt 0, .none, .none] } }) :=
  .of_wp fun prog w A R s h => by
    obtain ⟨hp, g, d, tk, os⟩ := s
    obtain ⟨hl, h⟩ := h
    have hsub := sub_enumerate
    have hT : Heap.IsTuple (Shared.heap ⟨hp, g, d, tk, os⟩) p its := ⟨_, hl, rfl, n, rfl⟩
    wp_walk using wpAny_loadPart' hl
    refine wpAny_stack_any fun st => wpAny_pure ?_
    split
    · rename_i c _ _ _ _ _
      cases (c == Value.type "enumerate") <;> (wp_walk using wpAny_loadPart' hl, wpAny_pyIter_tuple hT; exact ⟨_, rfl, h⟩)
    · wp_walk using wpAny_loadPart' hl, wpAny_pyIter_tuple hT
      exact ⟨_, rfl, h⟩
theorem en_callT {prog : Program} {w : World} {A : Around} {E : Value → Shared → Prop} {s : Shared} {p : Addr} {its : Array Value} {Q : Value → Shared → Prop} (hT : s.heap.IsTuple p its)
    (h : ∀ h', IsEnum h' (s.heap.objs.size + 1) s.heap.objs.size 0 .none → h'.IsTupleIter s.heap.objs.size p 0 → h'.objs.size = s.heap.objs.size + 2 →
      (∀ b o, s.heap.get? b = some o → h'.get? b = some o) → Q (.ref (s.heap.objs.size + 1)) { s with heap := h' }) : wpAny (model prog w) A (call (.type "enumerate") [.ref p]) Q E s := by
  obtain ⟨⟨c, dct, dt, sl⟩, hl, hc, n, hd⟩ := hT
  simp only at hc hd
  subst hc hd
  refine callType_new F.called_enumerate (by decide) (F.typeCall_enumerate_1 _) (F.newCall_enumerate_1 _) (fun obj => F.args_object_init_2 obj _) F.entry_enumerate_new (en_newT p its n dct sl) ⟨hl, ?_⟩
  generalize hg : s.heap.push { cls := .type "tuple_iterator", data := .fields #[.ref p, .int 0 0] } = g
  have hz : g.objs.size = s.heap.objs.size + 1 := by rw [← hg]; exact Heap.size_push ..
  show _ ∧ _
  rw [hz]
  have he : IsEnum (g.push { cls := .type "enumerate", data := .fields #[.none, .bool false, .ref s.heap.objs.size, rawInt 0, .none, .none] }) (s.heap.objs.size + 1) s.heap.objs.size 0 .none := by
    have q := Heap.get?_push_size g (o := { cls := .type "enumerate", data := .fields #[.none, .bool false, .ref s.heap.objs.size, rawInt 0, .none, .none] }) rfl
    rw [hz] at q
    exact q
  have hi : g.get? s.heap.objs.size = some { cls := .type "tuple_iterator", data := .fields #[.ref p, .int 0 0] } := by rw [← hg]; exact Heap.get?_push_size _ rfl
  refine ⟨⟨_, he, rfl⟩, h _ he ⟨_, Heap.get?_push_of_some _ hi, rfl, rfl⟩ (by rw [Heap.size_push, hz]) fun b o x => Heap.get?_push_of_some _ ?_⟩
  rw [← hg]
  exact Heap.get?_push_of_some _ x
/-- the tuple at a, each item in a new pair -/
def IteT (K : PySem.W.Frag) (a : Addr) : It :=
  ⟨fun i H => ∃ (xs : List V) (x : V), SqT K H a xs ∧ xs[i]? = some x, fun i H v H' => ∃ T x, v = .ref T ∧ H T = none ∧ H' = upd H T (.tup [.int (i : Nat), x]) ∧ ∀ xs, SqT K H a xs → xs[i]? = some x, fun i H => ∃ xs : List V, SqT K H a xs ∧ xs.length ≤ i⟩
theorem turn_enT {P : Program} {w : World} {K : PySem.W.Frag} {elts : List Expr} {kk : Nat} {tpos : Pos} (a e it : Addr) :
    Turn P w K (.Tuple elts kk tpos) (IteT K a) [e, it] e (fun i h => (∃ old, IsEnum h e it ((i : Nat) : Int) old) ∧ h.IsTupleIter it a i ∧ e ≠ it ∧ e ≠ a ∧ a ≠ it) where
  mem := by simp
  obj := fun i h st b hb => by
    obtain ⟨⟨old, he⟩, ⟨o, ho, hc, hd⟩, _⟩ := st
    rcases (by simpa using hb : b = e ∨ b = it) with z | z
    · rw [z]; exact ⟨_, he, fun v q => nomatch q⟩
    · rw [z]; exact ⟨o, ho, fun v q => by rw [hd] at q; cases q⟩
  keep := fun i h h' st k => let ⟨⟨old, he⟩, hi, hne⟩ := st; ⟨⟨old, k e (by simp) _ he⟩, hi.at fun o q => k it (by simp) o q, hne⟩
  item := by
    intro X hP hw hK hc i pins s σ H E I hf st hg
    subst hP hw hK
    obtain ⟨⟨old, he⟩, hit, hne, hea, hai⟩ := st
    obtain ⟨xs, x, hq, hx⟩ := hg
    obtain ⟨its, rv, p, hz⟩ := I.tuple hq
    obtain ⟨u, hu, ru⟩ := rv.get hx
    have hel : e < s.heap.objs.size := Heap.lt_size he
    have hil : it < s.heap.objs.size := by obtain ⟨_, q, _⟩ := hit; exact Heap.lt_size q
    have pT : s.heap.IsTuple a its.toArray := p
    have hlt : i < its.toArray.size := by
      have := (List.getElem?_eq_some_iff.mp hu).1
      simpa using this
    refine wpAny_pyNext_enum_itemD (Draws.tuple (A := X.A.in1) (show X.A.in1.handled = none from I.ok.hd hc) it a hai its.toArray) he ⟨hit, pT⟩ hlt hne (by simp [hne, hea]) fun v h' tk hv ho hst hT hsz hk => ?_
    have ev : v = u := by
      have q : its[i]? = some v := by simpa using hv
      rw [hu] at q
      exact (Option.some.inj q).symm
    subst ev
    refine ⟨_, rfl, wpAny_letOwnedTupleGo_enum (s := { s with heap := h', toks := tk + 1 }) ho fun h'' he' sb => ?_⟩
    have hT2 : h''.get? s.heap.objs.size = some { cls := .type "tuple", data := .seq #[.int i tk, v] } := (sb.2 _ (Nat.ne_of_gt hel)).trans hT
    have new : ObjOk X.prog X.w (upd H s.heap.objs.size (.tup [.int (i : Nat), x])) h'' s.heap.objs.size (.tup [.int (i : Nat), x]) :=
      ⟨by show 2 ≤ sizeLine; decide, [.int i tk, v], .cons ⟨_, rfl⟩ (.cons ru .nil), ⟨_, hT2, rfl, _, rfl⟩⟩
    have I1 : Inv X pins σ (upd H s.heap.objs.size (.tup [.int (i : Nat), x])) { s with heap := h'', toks := tk + 1 } :=
      I.turnedNew (ch := [e, it]) (fun b ob hb q => (sb.2 b (fun z => hb (by simp [z]))).trans (hk b ob (fun z => hb (by simp [z])) (fun z => hb (by simp [z])) q)) hf (Nat.le_refl _) new
    refine ⟨.ref s.heap.objs.size, _, I1, rfl, ⟨_, x, rfl, I.hok.fresh (Nat.le_refl _), rfl, fun ys hy => by rw [I.tuple_inj hy hq]; exact hx⟩, ⟨⟨v, ?_⟩, hst.1.at fun o q => (sb.2 it (Ne.symm hne)).trans q, hne, hea, hai⟩, fun b hb => ?_⟩
    · rw [show ((i + 1 : Nat) : Int) = (i : Int) + 1 by omega]; exact he'
    · have hb' : b < s.heap.objs.size := by
        rcases (by simpa using hb : b = e ∨ b = it) with z | z
        · rw [z]; exact hel
        · rw [z]; exact hil
      rw [upd_ne (Nat.ne_of_lt hb')]
      exact (hf b hb).1
  done := by
    intro X hP hw hK hc i pins s σ H E I hf st hg
    subst hP hw hK
    obtain ⟨⟨old, he⟩, hit, hne, hea, hai⟩ := st
    obtain ⟨xs, hq, hx⟩ := hg
    obtain ⟨its, rv, p, hz⟩ := I.tuple hq
    obtain ⟨f0, f1, f2, f3, f4, f5⟩ := hf it (by simp)
    have hl := rv.length
    have pT : s.heap.IsTuple a its.toArray := p
    unfold pyNext
    have hTy : s.TypeIs (.ref e) "enumerate" := ⟨_, he, rfl⟩
    refine wpAny_bind (wpAny_attempt (wpAny_callSpecial?_slot (name := Str.ofString "__next__") hTy F.slot_enumerate_next (wpAny_call_entry F.slot_enumerate_next hTy F.entry_enumerate_next ?_ (F.args_enumerate_next_1 _))))
    show wpAny _ _ (field (.ref e) 2 >>= _) _ _ _
    refine wpAny_bind (wpAny_field he rfl (x := .ref it) rfl ?_)
    refine wpAny_bind (wpAny_nextOf_tuple_end (I.ok.hd hc) hit pT (by simp; omega) fun h' x he' hx' => ?_)
    obtain ⟨o, ho, hcl⟩ := hx'
    refine wpAny_bind (wpAny_isInstance (T := "StopIteration") (b := true) ⟨o, ho, hcl⟩ isSubtype_stop ?_)
    exact wpAny_pure ⟨rfl, I.turned (t' := s.toks) (fun b o hb q => he' b o hb q) f0 f1 f3 f4 f5⟩
  self := fun A i s Q E st h => let ⟨⟨_, he⟩, _⟩ := st; wpAny_pyIter_enum he h
def iEnumS (K : PySem.W.Frag) (ta : TA) : TI := fun σ H R => ta σ H fun vs H1 => ∃ a xs, vs = [.ref a] ∧ ((SqL K H1 a xs ∧ R (Ite K a) H1) ∨ (SqT K H1 a xs ∧ R (IteT K a) H1))
theorem pi_enumS {X : Cx} {e : Expr} {ta : TA} {p pos tpos : Pos} {elts : List Expr} {kk : Nat} (hg : Gl X "enumerate") (hm : X.mg "enumerate" = none) (ha : PA X [e] ta) (hs : starEach [e] X.env = [(false, eval e X.env)] := by rfl) :
    PI X (.Tuple elts kk tpos) (.Call (.Name "enumerate" p) [e] [] pos) (iEnumS X.K ta) := by
  refine ⟨fun pins s σ H R I h => PyProof.Rows.Call_ (ld_blt I hg hm PyProof.Rows.boot_enumerate (PyProof.Rows.callWith_type1 (thn (ha.run pos pins s σ H _ I h) fun us s1 g => ?_) hs rfl))⟩
  obtain ⟨vs, H1, I1, r1, a, xs, rfl, g⟩ := g
  cases r1 with
  | cons r rr =>
    cases rr
    cases r
    have fresh : ∀ b ∈ [s1.heap.objs.size + 1, s1.heap.objs.size], s1.heap.objs.size ≤ b := fun b hb => by
      rcases (by simpa using hb : b = s1.heap.objs.size + 1 ∨ b = s1.heap.objs.size) with z | z <;> omega
    rcases g with ⟨hq, q⟩ | ⟨hq, q⟩
    · obtain ⟨its, rv, p', hz⟩ := I1.list hq
      refine call_enumerate_list p'.isList fun h' he hit hsz hk => wpAny_pyIter_enum he ?_
      exact ⟨s1.heap.objs.size + 1, [s1.heap.objs.size + 1, s1.heap.objs.size], _, _, H1, rfl, I1.kept (t' := s1.toks) hk, turn_enum a (s1.heap.objs.size + 1) s1.heap.objs.size, ⟨⟨.none, he⟩, hit, Nat.succ_ne_self _⟩, fun b hb => I1.fpOk (fresh b hb) (I1.hok.fresh (fresh b hb)), q⟩
    · obtain ⟨its, rv, p', hz⟩ := I1.tuple hq
      have pT : s1.heap.IsTuple a its.toArray := p'
      have hal : a < s1.heap.objs.size := by obtain ⟨o, ho, _⟩ := pT; exact Heap.lt_size ho
      refine en_callT pT fun h' he hit hsz hk => wpAny_pyIter_enum he ?_
      exact ⟨s1.heap.objs.size + 1, [s1.heap.objs.size + 1, s1.heap.objs.size], _, _, H1, rfl, I1.kept (t' := s1.toks) hk, turn_enT a (s1.heap.objs.size + 1) s1.heap.objs.size, ⟨⟨.none, he⟩, hit, Nat.succ_ne_self _, Nat.ne_of_gt (Nat.lt_succ_of_lt hal), Nat.ne_of_lt hal⟩, fun b hb => I1.fpOk (fresh b hb) (I1.hok.fresh (fresh b hb)), q⟩
theorem for_en {K : PySem.W.Frag} {a : Addr} {xs : List V} {g : TG} {tb : TS} {D : Ends} {σ : St} {H : Hp} (J : It) (Sq : Hp → List V → Prop) (hJ : J = Ite K a ∧ Sq = (fun H ys => SqL K H a ys) ∨ J = IteT K a ∧ Sq = (fun H ys => SqT K H a ys)) (Pv : Nat → St → Hp → Prop) (h0 : Pv 0 σ H) (hl : ∀ i σ H, i ≤ xs.length → Pv i σ H → Sq H xs)
    (hs : ∀ i x σ H T H', xs[i]? = some x → Pv i σ H → H T = none → H' = upd H T (.tup [.int (i : Nat), x]) → g (.ref T) σ H' fun σ2 H2 => tb { D with nx := Pv (i + 1), ct := Pv (i + 1), bk := D.nx } σ2 H2) (hd : ∀ σ H, Pv xs.length σ H → D.nx σ H) :
    ∃ W : Nat → Nat → St → Hp → Prop, (∃ m, W 0 m σ H) ∧ ∀ i m σ H, W i m σ H →
      (J.stop i H ∧ D.nx σ H) ∨ (J.go i H ∧ ∃ N : St → Hp → Prop, (∀ σ' H', N σ' H' → ∃ m', m' < m ∧ W (i + 1) m' σ' H') ∧ ∀ x H', J.yld i H x H' → g x σ H' fun σ2 H2 => tb { D with nx := N, ct := N, bk := D.nx } σ2 H2) := by
  refine ⟨fun i m σ H => m = xs.length - i ∧ i ≤ xs.length ∧ Pv i σ H, ⟨xs.length, by simp, Nat.zero_le _, h0⟩, ?_⟩
  rintro i m σ H ⟨rfl, hi, pv⟩
  have sq := hl i σ H hi pv
  by_cases hlt : i < xs.length
  · have hx : xs[i]? = some xs[i] := List.getElem?_eq_getElem hlt
    have hgo : J.go i H := by
      rcases hJ with ⟨rfl, rfl⟩ | ⟨rfl, rfl⟩
      · exact ⟨xs, _, sq, hx⟩
      · exact ⟨xs, _, sq, hx⟩
    refine .inr ⟨hgo, Pv (i + 1), fun σ' H' q => ⟨xs.length - (i + 1), by omega, rfl, hlt, q⟩, fun x H' y => ?_⟩
    have hy : ∃ T z, x = .ref T ∧ H T = none ∧ H' = upd H T (.tup [.int (i : Nat), z]) ∧ xs[i]? = some z := by
      rcases hJ with ⟨rfl, rfl⟩ | ⟨rfl, rfl⟩
      · obtain ⟨T, z, e1, e2, e3, e4⟩ := y; exact ⟨T, z, e1, e2, e3, e4 xs sq⟩
      · obtain ⟨T, z, e1, e2, e3, e4⟩ := y; exact ⟨T, z, e1, e2, e3, e4 xs sq⟩
    obtain ⟨T, z, rfl, e2, rfl, e4⟩ := hy
    exact hs i z σ H T _ e4 pv e2 rfl
  · have e : i = xs.length := by omega
    subst e
    refine .inl ⟨?_, hd σ H pv⟩
    rcases hJ with ⟨rfl, rfl⟩ | ⟨rfl, rfl⟩
    · exact ⟨xs, sq, Nat.le_refl _⟩
    · exact ⟨xs, sq, Nat.le_refl _⟩
theorem r_enS {K : PySem.W.Frag} {r : Addr} {xs : List V} {ta : TA} {g : TG} {tb : TS} {D : Ends} {σ : St} {H : Hp} (ha : ∀ QA : List V → Hp → Prop, QA [.ref r] H → ta σ H QA) (hq : SqL K H r xs ∨ SqT K H r xs) (Pv : Nat → St → Hp → Prop) (h0 : Pv 0 σ H) (hl : ∀ i σ H', Pv i σ H' → Same H H')
    (hs : ∀ i x σ H T H', xs[i]? = some x → Pv i σ H → H T = none → H' = upd H T (.tup [.int (i : Nat), x]) → g (.ref T) σ H' fun σ2 H2 => tb { D with nx := Pv (i + 1), ct := Pv (i + 1), bk := D.nx } σ2 H2) (hd : ∀ σ H, Pv xs.length σ H → D.nx σ H) :
    iEnumS K ta σ H fun J H1 => ∃ W : Nat → Nat → St → Hp → Prop, (∃ m, W 0 m σ H1) ∧ ∀ i m σ H, W i m σ H →
      (J.stop i H ∧ D.nx σ H) ∨ (J.go i H ∧ ∃ N : St → Hp → Prop, (∀ σ' H', N σ' H' → ∃ m', m' < m ∧ W (i + 1) m' σ' H') ∧ ∀ x H', J.yld i H x H' → g x σ H' fun σ2 H2 => tb { D with nx := N, ct := N, bk := D.nx } σ2 H2) := by
  refine ha _ ⟨r, xs, rfl, ?_⟩
  rcases hq with hq | hq
  · exact .inl ⟨hq, for_en _ _ (.inl ⟨rfl, rfl⟩) Pv h0 (fun i σ H' _ pv => Same.seq (hl i σ H' pv) hq) hs hd⟩
  · refine .inr ⟨hq, for_en _ _ (.inr ⟨rfl, rfl⟩) Pv h0 (fun i σ H' _ pv => ?_) hs hd⟩
    have s := hl i σ H' pv
    rcases hq with (h | ⟨o, h⟩) | h
    · exact .inl (.inl (s _ _ h))
    · exact .inl (.inr ⟨o, s _ _ h⟩)
    · exact .inr h

/-! ### min(xs, default=d), max(xs, default=d) of ints -/
def rMinD (K : PySem.W.Frag) : List V → List V → Hp → VK → Prop := fun vs zs H Q => ∃ (a : Addr) (ns : List Int) (d : V), vs = [.ref a] ∧ zs = [d] ∧ SqL K H a (ns.map V.int) ∧ (ns = [] → Q d H) ∧ ∀ m, m ∈ ns → (∀ y, y ∈ ns → m ≤ y) → Q (.int m) H
def rMaxD (K : PySem.W.Frag) : List V → List V → Hp → VK → Prop := fun vs zs H Q => ∃ (a : Addr) (ns : List Int) (d : V), vs = [.ref a] ∧ zs = [d] ∧ SqL K H a (ns.map V.int) ∧ (ns = [] → Q d H) ∧ ∀ m, m ∈ ns → (∀ y, y ∈ ns → y ≤ m) → Q (.int m) H
theorem minOf_is (x : Int) (xs : List Int) : PySem.W.minOf x xs ∈ x :: xs ∧ ∀ y, y ∈ x :: xs → PySem.W.minOf x xs ≤ y := by
  induction xs generalizing x with
  | nil => exact ⟨List.mem_cons_self .., fun y hy => by simp at hy; subst hy; exact Int.le_refl _⟩
  | cons z zs ih =>
    obtain ⟨h1, h2⟩ := ih (if decide (z < x) = true then z else x)
    have e : PySem.W.minOf x (z :: zs) = PySem.W.minOf (if decide (z < x) = true then z else x) zs := rfl
    rw [e]
    by_cases c : z < x
    · rw [if_pos (decide_eq_true c)] at h1 h2 ⊢
      exact ⟨List.mem_cons_of_mem _ h1, fun y hy => by
        rcases List.mem_cons.mp hy with rfl | hy
        · exact Int.le_trans (h2 z (List.mem_cons_self ..)) (by omega)
        · exact h2 y hy⟩
    · rw [if_neg (by rw [decide_eq_false c]; exact Bool.false_ne_true)] at h1 h2 ⊢
      refine ⟨?_, fun y hy => ?_⟩
      · rcases List.mem_cons.mp h1 with e | h1
        · rw [e]; exact List.mem_cons_self ..
        · exact List.mem_cons_of_mem _ (List.mem_cons_of_mem _ h1)
      · rcases List.mem_cons.mp hy with rfl | hy
        · exact h2 y (List.mem_cons_self ..)
        · rcases List.mem_cons.mp hy with rfl | hy
          · exact Int.le_trans (h2 x (List.mem_cons_self ..)) (by omega)
          · exact h2 y (List.mem_cons_of_mem _ hy)
theorem maxOf_is (x : Int) (xs : List Int) : PySem.W.maxOf x xs ∈ x :: xs ∧ ∀ y, y ∈ x :: xs → y ≤ PySem.W.maxOf x xs := by
  induction xs generalizing x with
  | nil => exact ⟨List.mem_cons_self .., fun y hy => by simp at hy; subst hy; exact Int.le_refl _⟩
  | cons z zs ih =>
    obtain ⟨h1, h2⟩ := ih (if decide (x < z) = true then z else x)
    have e : PySem.W.maxOf x (z :: zs) = PySem.W.maxOf (if decide (x < z) = true then z else x) zs := rfl
    rw [e]
    by_cases c : x < z
    · rw [if_pos (decide_eq_true c)] at h1 h2 ⊢
      exact ⟨List.mem_cons_of_mem _ h1, fun y hy => by
        rcases List.mem_cons.mp hy with rfl | hy
        · exact Int.le_trans (by omega) (h2 z (List.mem_cons_self ..))
        · exact h2 y hy⟩
    · rw [if_neg (by rw [decide_eq_false c]; exact Bool.false_ne_true)] at h1 h2 ⊢
      refine ⟨?_, fun y hy => ?_⟩
      · rcases List.mem_cons.mp h1 with e | h1
        · rw [e]; exact List.mem_cons_self ..
        · exact List.mem_cons_of_mem _ (List.mem_cons_of_mem _ h1)
      · rcases List.mem_cons.mp hy with rfl | hy
        · exact h2 y (List.mem_cons_self ..)
        · rcases List.mem_cons.mp hy with rfl | hy
          · exact Int.le_trans (by omega) (h2 x (List.mem_cons_self ..))
          · exact h2 y (List.mem_cons_of_mem _ hy)
theorem held_int {h : Heap} {v : Value} {m : Int} (q : PySem.W.Holds h v m) : ∃ t, v = .int m t := by
  obtain ⟨as, r⟩ := q
  cases r with
  | int n t => exact ⟨t, rfl⟩
theorem cr_minD {X : Cx} (hc : X.calm = true) (hu : X.A.units + 64 < cLine) : CallRK X (.builtin "min") ["default"] (rMinD X.K) := by
  intro pins s σ H vs zs us ws Q I r rz h
  obtain ⟨a, ns, d, rfl, rfl, hs, q0, q1⟩ := h
  obtain ⟨its, rv, hl, _⟩ := I.list hs
  obtain ⟨w1, rfl, e1⟩ := vals1 rz
  rw [Vals.ref1 r]
  refine PySem.W.min_list_datum_default (I.ok.hd hc) hl.isList (PySem.W.HoldAll.of_ints rv.ints) (Nat.lt_of_le_of_lt (by rw [Nat.add_assoc]; exact Nat.add_le_add_left (by decide) _) hu) (fun e h' tk hk => ⟨d, H, I.kept hk, e1, q0 e⟩) fun y ys i v h' tk e hi hv hk => ?_
  obtain ⟨t, rfl⟩ := held_int hv
  obtain ⟨m1, m2⟩ := minOf_is y ys
  exact ⟨.int _, H, I.kept hk, ⟨_, rfl⟩, q1 _ (e ▸ m1) (e ▸ m2)⟩
theorem cr_maxD {X : Cx} (hc : X.calm = true) (hu : X.A.units + 64 < cLine) : CallRK X (.builtin "max") ["default"] (rMaxD X.K) := by
  intro pins s σ H vs zs us ws Q I r rz h
  obtain ⟨a, ns, d, rfl, rfl, hs, q0, q1⟩ := h
  obtain ⟨its, rv, hl, _⟩ := I.list hs
  obtain ⟨w1, rfl, e1⟩ := vals1 rz
  rw [Vals.ref1 r]
  refine PySem.W.max_list_datum_default (I.ok.hd hc) hl.isList (PySem.W.HoldAll.of_ints rv.ints) (Nat.lt_of_le_of_lt (by rw [Nat.add_assoc]; exact Nat.add_le_add_left (by decide) _) hu) (fun e h' tk hk => ⟨d, H, I.kept hk, e1, q0 e⟩) fun y ys i v h' tk e hi hv hk => ?_
  obtain ⟨t, rfl⟩ := held_int hv
  obtain ⟨m1, m2⟩ := maxOf_is y ys
  exact ⟨.int _, H, I.kept hk, ⟨_, rfl⟩, q1 _ (e ▸ m1) (e ▸ m2)⟩
theorem r_CKw {r : List V → List V → Hp → VK → Prop} {t tk : TA} {σ : St} {H : Hp} {Q : VK} (h : t σ H fun vs H1 => tk σ H1 fun zs H2 => r vs zs H2 Q) : tCKw r t tk σ H Q := h

/-! ### how calls with keyword-only parameters bind -/
theorem bd_is_name {K : PySem.W.Frag} {mg : Str → Option Value} {a : Adr} (T : Txt K mg base a) : ∃ ds : List Value, Vals [.non, .ref a.t_is_name_roots] ds ∧ Binds K a.d_is_name ["thing", "turns", "roots"] ds :=
  FunD.binds0 T.F_is_name 1 (by simp) rfl fun D doc pm an cdv ct us ks h1 h2 => match us, ks, h1, h2 with
    | [_], [_, _], _, _ => ⟨_, _, _, _, _, _, rfl, rfl, ⟨_, _, _, _, _, _, rfl, rfl, rfl⟩⟩
theorem bd_known_at {K : PySem.W.Frag} {mg : Str → Option Value} {a : Adr} (T : Txt K mg base a) : ∃ ds : List Value, Vals [.non, .ref a.t_known_at_roots] ds ∧ Binds K a.d_known_at ["machine", "name", "turns", "roots"] ds :=
  FunD.binds0 T.F_known_at 2 (by simp) rfl fun D doc pm an cdv ct us ks h1 h2 => match us, ks, h1, h2 with
    | [_, _], [_, _], _, _ => ⟨_, _, _, _, _, _, rfl, rfl, ⟨_, _, _, _, _, _, rfl, rfl, rfl⟩⟩

/-! ### the growing tree: rules, specifications -/
abbrev Turns := Option Nat
/-- turns as a value -/
abbrev tv : Turns → V
  | none => .non
  | some d => .int d
def TurnsIn (T : Turns) : Prop := match T with
  | none => True
  | some d => 1 ≤ d ∧ d ≤ 1000000000000
def depths (T : Turns) : Nat := match T with
  | none => 120
  | some _ => 40
theorem depths_le (T : Turns) : depths T ≤ 120 := by
  cases T with
  | none => exact Nat.le_refl _
  | some d => exact (by decide : (40 : Nat) ≤ 120)
/-- ascending times of roots -/
def RootsFrom : Int → List Int → Prop
  | _, [] => True
  | b, r :: rs => b ≤ r ∧ r ≤ 1000000000000 ∧ RootsFrom r rs
def RootsOk (rs : List Int) : Prop := 1 ≤ rs.length ∧ rs.length ≤ 6 ∧ RootsFrom 0 rs
theorem RootsFrom.get : ∀ {rs : List Int} {b : Int} {i : Nat} {r : Int}, RootsFrom b rs → rs[i]? = some r → b ≤ r ∧ r ≤ 1000000000000
  | [], _, _, _, _, h => by simp at h
  | a :: rs, b, 0, r, h, e => by
    have : a = r := by simpa using e
    subst this
    exact ⟨h.1, h.2.1⟩
  | a :: rs, b, i + 1, r, h, e => by
    have q := RootsFrom.get h.2.2 (by simpa using e : rs[i]? = some r)
    exact ⟨Int.le_trans h.1 q.1, q.2⟩
theorem RootsFrom.next : ∀ {rs : List Int} {b : Int} {i : Nat} {r s : Int}, RootsFrom b rs → rs[i]? = some r → rs[i + 1]? = some s → r ≤ s
  | [], _, _, _, _, _, h, _ => by simp at h
  | a :: rs, b, 0, r, s, h, e1, e2 => by
    have : a = r := by simpa using e1
    subst this
    exact (RootsFrom.get h.2.2 (by simpa using e2 : rs[0]? = some s)).1
  | a :: rs, b, i + 1, r, s, h, e1, e2 => RootsFrom.next h.2.2 (by simpa using e1) (by simpa using e2)
def SqR (K : PySem.W.Frag) (H : Hp) (r : Addr) (rs : List Int) : Prop := H r = some (.lst (rs.map V.int)) ∨ SqT K H r (rs.map V.int)
theorem SqR.keep {K : PySem.W.Frag} {H H' : Hp} {r : Addr} {rs : List Int} (h : SqR K H r rs) (s : Same H H') : SqR K H' r rs := by
  rcases h with h | h
  · exact .inl (s _ _ h)
  · refine .inr ?_
    rcases h with (h | ⟨o, h⟩) | h
    · exact .inl (.inl (s _ _ h))
    · exact .inl (.inr ⟨o, s _ _ h⟩)
    · exact .inr h
def tf (D G : Int) (T : Turns) (rt pw : Addr) : List (Str × V) := putF "powers" (.ref pw) (putF "horizon" (.int (depths T * D)) (putF "roots" (.ref rt) (putF "turns" (tv T) (putF "gap" (.int G) (putF "letter" (.int D) [])))))
theorem tf_letter {D G : Int} {T : Turns} {rt pw : Addr} : (tf D G T rt pw).lookup ("letter" : Str) = some (.int D) := by unfold tf; walk_at "lk"
theorem tf_gap {D G : Int} {T : Turns} {rt pw : Addr} : (tf D G T rt pw).lookup ("gap" : Str) = some (.int G) := by unfold tf; walk_at "lk"
theorem tf_turns {D G : Int} {T : Turns} {rt pw : Addr} : (tf D G T rt pw).lookup ("turns" : Str) = some (tv T) := by unfold tf; walk_at "lk"
theorem tf_roots {D G : Int} {T : Turns} {rt pw : Addr} : (tf D G T rt pw).lookup ("roots" : Str) = some (.ref rt) := by unfold tf; walk_at "lk"
theorem tf_horizon {D G : Int} {T : Turns} {rt pw : Addr} : (tf D G T rt pw).lookup ("horizon" : Str) = some (.int (depths T * D)) := by unfold tf; walk_at "lk"
theorem tf_powers {D G : Int} {T : Turns} {rt pw : Addr} : (tf D G T rt pw).lookup ("powers" : Str) = some (.ref pw) := by unfold tf; walk_at "lk"
theorem tf_no {D G : Int} {T : Turns} {rt pw : Addr} {m : Str} (h1 : ¬ m = "powers") (h2 : ¬ m = "horizon") (h3 : ¬ m = "roots") (h4 : ¬ m = "turns") (h5 : ¬ m = "gap") (h6 : ¬ m = "letter") : (tf D G T rt pw).lookup m = none := by
  unfold tf
  rw [lookup_putF, if_neg h1, lookup_putF, if_neg h2, lookup_putF, if_neg h3, lookup_putF, if_neg h4, lookup_putF, if_neg h5, lookup_putF, if_neg h6]
  rfl
/-- a tree at x -/
structure TreeAt (K : PySem.W.Frag) (C : Addr) (H : Hp) (x : Addr) (D G : Int) (T : Turns) (rs : List Int) : Prop where
  ex : ∃ dx rt pw, H x = some (.ins C dx (tf D G T rt pw)) ∧ SqT K H rt (rs.map V.int) ∧ ∀ d, T = some d → H pw = some (.tup (((List.range 41).map fun k => (d : Int) ^ k).map V.int))
  D0 : 0 < D
  D9 : D ≤ 3000000000
  G0 : 0 < G
  G9 : G ≤ 1000000000
  T0 : TurnsIn T
  R0 : RootsOk rs
theorem sqT_keep {K : PySem.W.Frag} {H H' : Hp} {r : Addr} {xs : List V} (h : SqT K H r xs) (s : Same H H') : SqT K H' r xs := by
  rcases h with (h | ⟨o, h⟩) | h
  · exact .inl (.inl (s _ _ h))
  · exact .inl (.inr ⟨o, s _ _ h⟩)
  · exact .inr h
theorem sqT_but {K : PySem.W.Frag} {H H' : Hp} {r p : Addr} {xs : List V} (h : SqT K H r xs) (s : But p H H') (n : r ≠ p) : SqT K H' r xs := by
  rcases h with (h | ⟨o, h⟩) | h
  · exact .inl (.inl (s _ _ h n))
  · exact .inl (.inr ⟨o, s _ _ h n⟩)
  · exact .inr h
theorem sqT_keep2 {K : PySem.W.Frag} {H : Hp} {r L : Addr} {xs ys zs : List V} (h : SqT K H r xs) (e : H L = some (.lst ys)) : SqT K (upd H L (.lst zs)) r xs := by
  rcases h with (h | ⟨o, h⟩) | h
  · exact .inl (.inl ((upd_ne (ne_of h e (by intro z; cases z))).trans h))
  · exact .inl (.inr ⟨o, (upd_ne (ne_of h e (by intro z; cases z))).trans h⟩)
  · exact .inr h
theorem SqR.but {K : PySem.W.Frag} {H H' : Hp} {r p : Addr} {rs : List Int} (h : SqR K H r rs) (s : But p H H') (n : r ≠ p) : SqR K H' r rs := by
  rcases h with h | h
  · exact .inl (s _ _ h n)
  · exact .inr (sqT_but h s n)
theorem sqT_butI {K : PySem.W.Frag} {H H' : Hp} {r x C dx : Addr} {fs : List (Str × V)} {xs : List V} (h : SqT K H r xs) (hx : H x = some (.ins C dx fs)) (s : But x H H') : SqT K H' r xs := by
  rcases h with (h | ⟨o, h⟩) | h
  · exact .inl (.inl (s _ _ h (ne_of h hx (by intro z; cases z))))
  · exact .inl (.inr ⟨o, s _ _ h (ne_of h hx (by intro z; cases z))⟩)
  · exact .inr h
theorem SqR.butI {K : PySem.W.Frag} {H H' : Hp} {r x C dx : Addr} {fs : List (Str × V)} {rs : List Int} (h : SqR K H r rs) (hx : H x = some (.ins C dx fs)) (s : But x H H') : SqR K H' r rs := by
  rcases h with h | h
  · exact .inl (s _ _ h (ne_of h hx (by intro z; cases z)))
  · exact .inr (sqT_butI h hx s)
theorem r_tupR {K : PySem.W.Frag} {H : Hp} {Q : VK} {r : Addr} {rs : List Int} (h : SqR K H r rs) (q : ∀ p H', Same H H' → SqT K H' p (rs.map V.int) → Q (.ref p) H') : rTupOf K [.ref r] H Q := by
  rcases h with h | h
  · exact r_tupL h fun p H' np s e => q p H' s (SqT.of e)
  · exact ⟨r, _, rfl, .inr ⟨h, q r H (Same.refl _) h⟩⟩
theorem TreeAt.keep {K : PySem.W.Frag} {C x : Addr} {H H' : Hp} {D G : Int} {T : Turns} {rs : List Int} (h : TreeAt K C H x D G T rs) (s : Same H H') : TreeAt K C H' x D G T rs :=
  { h with ex := let ⟨dx, rt, pw, e1, e2, e3⟩ := h.ex; ⟨dx, rt, pw, s _ _ e1, sqT_keep e2 s, fun d hd => s _ _ (e3 d hd)⟩ }
def spCheckTurns : Sp := fun vs H Q _ => ∃ T : Turns, vs = [tv T] ∧ TurnsIn T ∧ Q .non H
def spCheckRoots (K : PySem.W.Frag) : Sp := fun vs H Q _ => ∃ (r : Addr) (rs : List Int), vs = [.ref r] ∧ SqR K H r rs ∧ RootsOk rs ∧ ∀ H', Same H H' → Q .non H'
def spTree (K : PySem.W.Frag) (C M : Addr) : Sp := fun vs H Q _ => ∃ (x dx m r : Addr) (o l g : Int) (T : Turns) (rs : List Int), vs = [.ref x, .ref m, tv T, .ref r] ∧ H x = some (.ins C dx []) ∧ MachAt M H m o l g ∧ (0 ≤ o ∧ o ≤ 1000000000) ∧ (0 ≤ l ∧ l ≤ 1000000000) ∧ (1 ≤ g ∧ g ≤ 1000000000) ∧ 0 < 2 * o + l ∧
  TurnsIn T ∧ SqR K H r rs ∧ RootsOk rs ∧ ∀ H', TreeAt K C H' x (2 * o + l) (gapOf o g) T rs → But x H H' → Q .non H'
theorem r_Tree {K : PySem.W.Frag} {C M : Addr} {H : Hp} {Q : VK} {E : XK} {m r : Addr} {o l g : Int} {T : Turns} {rs : List Int} (hm : MachAt M H m o l g) (ho : 0 ≤ o ∧ o ≤ 1000000000) (hl : 0 ≤ l ∧ l ≤ 1000000000) (hg : 1 ≤ g ∧ g ≤ 1000000000) (hp : 0 < 2 * o + l) (hT : TurnsIn T) (hR : SqR K H r rs) (hRo : RootsOk rs)
    (k : ∀ x H', H x = none → TreeAt K C H' x (2 * o + l) (gapOf o g) T rs → Same H H' → Q (.ref x) H') : MakeAt C (spTree K C M) ([.ref m, tv T, .ref r] ++ []) E H Q :=
  fun x dx nx nd _ => by
    have s0 : Same H (upd (upd H dx (.own x)) x (.ins C dx [])) := Same.made0 nx nd
    exact ⟨x, dx, m, r, o, l, g, T, rs, rfl, upd_same, hm.keep s0, ho, hl, hg, hp, hT, hR.keep s0, hRo, fun H' ht bt => ⟨rfl, k x H' nx ht (Same.made nx nd bt)⟩⟩
theorem gap_pos {o g : Int} (h : 1 ≤ g) : 1 ≤ gapOf o g := by unfold gapOf; by_cases c : g > o <;> simp [c] <;> omega
theorem gap_le {o g : Int} (h : g ≤ 1000000000) (h2 : o ≤ 1000000000) : gapOf o g ≤ 1000000000 := by unfold gapOf; by_cases c : g > o <;> simp [c] <;> omega
theorem r_tyL {K : PySem.W.Frag} {H : Hp} {r : Addr} {rs : List Int} (h : SqR K H r rs) : TyX K H (.ref r) (.type "list") ∨ TyX K H (.ref r) (.type "tuple") := by
  rcases h with h | (h | ⟨o, h⟩) | ⟨o, its, n, h, hc, _⟩
  · exact .inl (.base (.lst h))
  · exact .inr (.base (.tup h))
  · exact .inr (.fTuple h)
  · exact .inr (.kTuple h hc)
local macro_rules | `(tactic| walk_at "no") => `(tactic| exact tf_no (by decide +kernel) (by decide +kernel) (by decide +kernel) (by decide +kernel) (by decide +kernel) (by decide +kernel))
local macro_rules | `(tactic| walk_at "lk") => `(tactic| first | exact tf_letter | exact tf_gap | exact tf_turns | exact tf_roots | exact tf_horizon | exact tf_powers)
local macro_rules | `(tactic| walk_at "rd") => `(tactic| with_reducible first
  | refine r_lenS (by assumption) ?_)
section
variable {P : Program} {w : World} {K : PySem.W.Frag} {mg : Str → Option Value} {base : Heap} {a : Adr}
theorem ok_check_turns (T : Txt K mg base a) : FnOk P w K mg base CX0 3 a.a_check_turns a.d_check_turns ["turns"] spCheckTurns := by
  refine T.F_check_turns.ok sc_check_turns (fun vs H Q E h => ?_) (fun cdv A outer s H vs Q E hr h => ?_)
  · obtain ⟨d, rfl, _⟩ := h
    rfl
  · obtain ⟨d, rfl, hd, k⟩ := h
    refine ⟨_, (pss_one (ps_if (PW.pt (pw_and (pt_cmpR op_notNo (pv 0) pe_non (nomark _)) (pw_and1 (pt_not (pt_val (pe_call (ok_is_between T) (hr.mono (by decide)) (by rfl) T.g_is_between T.F_is_between.kp T.b_is_between .nil pass0 (pa_cons (pv 0) (pa_cons pe_int (pa_cons (pe_glob (v := .int 1000000000000) (by rfl) T.g_MOST_TURNS.choose_spec ⟨_, rfl⟩) pa_nil))))))))) (pss_one ps_never)
 pss_nil)), ?_⟩
    cases d with
    | none =>
      repeat walk_at "rd"
      exact k
    | some d =>
      repeat walk_at "rd"
      refine r_between ?_
      repeat walk_at "rd"
      refine r_nDT ⟨by have := hd.1; omega, by have := hd.2; omega⟩ ?_
      repeat walk_at "rd"
      exact k
theorem ok_check_roots (T : Txt K mg base a) : FnOk P w K mg base CX0 3 a.a_check_roots a.d_check_roots ["roots"] (spCheckRoots K) := by
  refine T.F_check_roots.ok sc_check_roots (fun vs H Q E h => ?_) (fun cdv A outer s H vs Q E hr h => ?_)
  · obtain ⟨r, rs, rfl, _⟩ := h
    rfl
  · obtain ⟨r, rs, rfl, hS, ⟨l1, l6, hR⟩, k⟩ := h
    refine ⟨_, (pss_cons (ps_if (PW.pt (pw_or (pt_not (pt_val (pe_callB call_isiT (by rfl) T.n_isinstance (by decide +kernel) (pa_cons (pv 0) (pa_cons (pe_tup (pa_cons (pe_bltn (v := .ty "list") (u := .type "list") (by rfl) T.n_list (by decide +kernel) rfl) (pa_cons (pe_bltn (v := .ty "tuple") (u := .type "tuple") (by rfl) T.n_tuple (by decide +kernel) rfl) pa_nil))) pa_nil))))) (pw_or1 (pt_not (pt_chain op_le op_le pe_int (pe_callB call_len_seq (by rfl) T.n_len (by decide +kernel) (pa_cons (pv 0) pa_nil)) (pe_glob (v := .int 6) (by rfl) T.g_MOST_ROOTS.choose_spec ⟨_, rfl⟩)))))) (pss_one ps_never)
 pss_nil)
 (pss_cons (ps_set (i := 1) sc_check_roots.nd rfl (Or.inl rfl) pe_int)
 (pss_one (ps_for (by exact PassesOwn.never) rfl (pi_enumS (by rfl) T.n_enumerate (pa_cons (pv 0) pa_nil)) (pg_tup (by rfl) (pgs_cons (pg_name (i := 2) sc_check_roots.nd rfl (Or.inl rfl)) (pgs_cons (pg_name (i := 3) sc_check_roots.nd rfl (Or.inl rfl)) pgs_nil)))
 (pss_cons (ps_if (pt_not (pt_val (pe_call (ok_is_between T) (hr.mono (by decide)) (by rfl) T.g_is_between T.F_is_between.kp T.b_is_between .nil pass0 (pa_cons (pv 3) (pa_cons (pv 1) (pa_cons (pe_glob (v := .int 1000000000000) (by rfl) T.g_LATEST_ROOT.choose_spec ⟨_, rfl⟩) pa_nil)))))) (pss_one ps_never)
 pss_nil)
 (pss_one (ps_set (i := 1) sc_check_roots.nd rfl (Or.inl rfl) (pv 3)))))))), ?_⟩
    walk_at "rdi"
    repeat walk_at "rd"
    refine new_at (Nat.le_of_ble_eq_true rfl) (fun u H1 nu s1 e1 => ?_)
    have hS1 := hS.keep s1
    have hk : ∃ t, TyX K H1 (.ref r) t ∧ PySem.W.kitAny K t [.type "list", .type "tuple"] = some true := by
      rcases r_tyL hS1 with h | h
      · exact ⟨_, h, kitAny_cons (b := true) (kit_ty (by decide +kernel)) (fun z => Bool.noConfusion z) fun _ => rfl⟩
      · exact ⟨_, h, kitAny_cons (b := false) (kit_ty (by decide +kernel)) (fun _ => kitAny_cons (b := true) (kit_ty (by decide +kernel)) (fun z => Bool.noConfusion z) fun _ => rfl) (fun z => Bool.noConfusion z)⟩
    obtain ⟨t, ty, hk⟩ := hk
    repeat walk_at "rd"
    refine ⟨_, u, [.ty "list", .ty "tuple"], t, [.type "list", .type "tuple"], true, rfl, e1, .cons (.ty _) (.cons (.ty _) .nil), ty, hk, ?_⟩
    have hq : SqL K H1 r (rs.map V.int) ∨ SqT K H1 r (rs.map V.int) := hS1.imp SqL.of id
    repeat walk_at "rd"
    refine r_lenS hq ?_
    repeat walk_at "rd"
    refine ite_tt (by rw [List.length_map]; omega) ?_
    repeat walk_at "rd"
    refine r_nDT (by rw [List.length_map]; omega) ?_
    repeat walk_at "rd"
    refine r_enS (xs := rs.map V.int) (by intro QA q; (repeat walk_at "rd"); exact q) hq (fun i σ H' => ∃ (b : Int) (v2 v3 : Option V), σ = [some (.ref r), some (.int b), v2, v3] ∧ Same H1 H' ∧ (∀ r0, rs[i]? = some r0 → b ≤ r0)) ⟨0, _, _, rfl, Same.refl _, fun r0 h => (hR.get h).1⟩ (fun i σ H' ⟨_, _, _, _, s, _⟩ => s) ?_ ?_
    · rintro i x σ H2 u2 H3 hx ⟨b, v2, v3, rfl, s2, hb⟩ nu2 rfl
      obtain ⟨z, hz, rfl⟩ := int_of_get hx
      repeat walk_at "rd"
      walk_at "rdi"
      repeat walk_at "rd"
      refine r_between ?_
      repeat walk_at "rd"
      refine r_nDT ⟨hb z hz, (hR.get hz).2⟩ ?_
      repeat walk_at "rd"
      exact ⟨z, _, _, rfl, s2.trans (Same.new nu2), fun r0 h => hR.next hz h⟩
    · rintro σ H2 ⟨b, v2, v3, rfl, s2, _⟩
      exact k _ (s1.trans s2)

theorem ok_Tree_init (T : Txt K mg base a) : FnOk P w K mg base CX0 4 a.a_Tree_init a.d_Tree_init ["self", "machine", "turns", "roots"] (spTree K a.c_Tree a.c_Machine) := by
  refine T.F_Tree_init.ok sc_Tree_init (fun vs H Q E h => ?_) (fun cdv A outer s H vs Q E hr h => ?_)
  · obtain ⟨x, dx, m, r, o, l, g, Tn, rs, rfl, _⟩ := h
    rfl
  · obtain ⟨x, dx, m, r, o, l, g, Tn, rs, rfl, hx, ⟨dm, hm⟩, ho, hl, hg, hp, hT, hR, hRo, k⟩ := h
    refine ⟨_, (pss_cons (ps_expr (pe_call (ok_check_turns T) (hr.mono (by decide)) (by rfl) T.g_check_turns T.F_check_turns.kp T.b_check_turns .nil pass0 (pa_cons (pv 2) pa_nil)))
 (pss_cons (ps_expr (pe_call (ok_check_roots T) (hr.mono (by decide)) (by rfl) T.g_check_roots T.F_check_roots.kp T.b_check_roots .nil pass0 (pa_cons (pv 3) pa_nil)))
 (pss_cons (ps_fld (pv 0) (pe_fld (pv 1) rfl) rfl)
 (pss_cons (ps_fld (pv 0) (pe_fld (pv 1) rfl) rfl)
 (pss_cons (ps_fld (pv 0) (pv 2) rfl)
 (pss_cons (ps_fld (pv 0) (pe_callTy cr_tup (by rfl) T.n_tuple (by decide +kernel) (pa_cons (pv 3) pa_nil)) rfl)
 (pss_one (ps_if (pt_cmpR op_isNo (pv 2) pe_non (nomark _)) (pss_cons (ps_fld (pv 0) (pe_op op_mul (pe_glob (v := .int 120) (by rfl) T.g_FREE_DEPTHS.choose_spec ⟨_, rfl⟩) (pe_fld (pv 0) rfl)) rfl)
 (pss_one (ps_fld (pv 0) (pe_tup pa_nil) rfl)))
 (pss_cons (ps_fld (pv 0) (pe_op op_mul (pe_glob (v := .int 40) (by rfl) T.g_TURNS_DEPTHS.choose_spec ⟨_, rfl⟩) (pe_fld (pv 0) rfl)) rfl)
 (pss_one (ps_fld (pv 0) (pe_callTy cr_tup (by rfl) T.n_tuple (by decide +kernel) (pa_cons (pe_lc (own := [("k", 4)]) (g := gName 4) (tt := tYes) rfl sc_Tree_init.nd (pi_range1 (by rfl) T.n_range (pa_cons pe_int pa_nil)) (blkOk_by (own := [("k", 4)]) (N := ["self", "machine", "turns", "roots", "k"]) (sc := defScope s_Tree_init) (by decide +kernel)) (fun _ _ _ _ _ => (pg_name (i := 4) sc_Tree_init.nd rfl (Or.inl rfl))) (fun _ _ _ _ _ => pts_nil) (fun _ _ _ _ _ => (pe_op op_pow (pv 2) (pv 4)))) pa_nil)) rfl))))))))))), ?_⟩
    repeat walk_at "rd"
    refine ⟨Tn, rfl, hT, ?_⟩
    repeat walk_at "rd"
    refine ⟨r, rs, rfl, hR, hRo, fun H1 s1 => ?_⟩
    have hx1 := s1 _ _ hx
    have hm1 := s1 _ _ hm
    have hR1 := hR.keep s1
    have nmx : m ≠ x := ne_of hm hx fun z => by
      have e := mf_o (o := o) (l := l) (g := g)
      rw [(HO.ins.inj z).2.2] at e
      cases e
    repeat walk_at "rd"
    refine r_tupR (hR1.butI hx1 (But.upd.trans (But.upd.trans But.upd))) (fun rt H2 s2 hrt => ?_)
    have e2 := s2 _ _ upd_same
    have b2 : But x H H2 := (But.of_same s1).trans (((But.upd.trans (But.upd.trans But.upd))).trans (But.of_same s2))
    clear hR1 hm1 hx1 s2
    repeat walk_at "rd"
    have hD0 : 0 < gapOf o g := by have := gap_pos (o := o) hg.1; omega
    have hG9 := gap_le (o := o) hg.2 ho.2
    cases Tn with
    | none =>
      repeat walk_at "rd"
      refine new_at (Nat.le_of_ble_eq_true rfl) (fun pw H3 npw s3 e3 => ?_)
      have e4 := s3 _ _ upd_same
      repeat walk_at "rd"
      have bz := (But.upd.trans (But.upd.trans ((But.of_same s3).trans (But.upd (p := x) (o := .ins a.c_Tree dx (tf (2 * o + l) (gapOf o g) none rt pw))))))
      refine k _ ⟨⟨dx, rt, pw, upd_same, sqT_butI hrt e2 bz, fun d hd => by cases hd⟩, hp, by omega, hD0, hG9, hT, hRo⟩ (b2.trans bz)
    | some d =>
      repeat walk_at "rd"
      refine ⟨by decide, by decide, fun L hL => lc_range (lo := 0) (n := 41) (fun i H' => H' L = some (.lst (((List.range i).map fun k => (d : Int) ^ k).map V.int)) ∧
        H' x = some (.ins a.c_Tree dx (putF "horizon" (.int (40 * (2 * o + l))) (putF "roots" (.ref rt) (putF "turns" (tv (some d)) (putF "gap" (.int (gapOf o g)) (putF "letter" (.int (2 * o + l)) [])))))) ∧ But x H2 H' ∧ L ≠ x ∧ H2 L = none) ?_ ?_ ?_⟩
      · have nxL : x ≠ L := ne_of_none upd_same hL
        refine ⟨upd_same, (upd_ne nxL).trans upd_same, But.upd.trans (But.upd.trans (But.new hL)), nxL.symm, ?_⟩
        rw [upd_ne nxL.symm, upd_ne nxL.symm] at hL
        exact hL
      · rintro i H3 hi ⟨h1, h2, h4, h5, h6⟩
        repeat walk_at "rd"
        refine ⟨rfl, ?_⟩
        repeat walk_at "rd"
        refine r_I (powOk (by omega) (by omega) (by have := hT.2; omega)) ?_
        refine ⟨_, h1, small1000 (by simp; omega), ?_, (upd_ne h5.symm).trans h2, h4.updOver h6 h1, h5, h6⟩
        rw [upd_same, List.range_succ, List.map_append, List.map_append, show ((0 + (i : Int)) : Int).toNat = i by omega]
        rfl
      · rintro H3 ⟨h1, h2, h4, h5, h6⟩
        repeat walk_at "rd"
        refine r_tupL h1 (fun pw H4 npw s4 e4 => ?_)
        have h2 := s4 _ _ h2
        have npx : pw ≠ x := (ne_of_none (show H3 x = some _ from by assumption) npw).symm
        repeat walk_at "rd"
        have bz := (h4.trans (But.of_same s4)).trans (But.upd (p := x) (o := .ins a.c_Tree dx (putF "powers" (.ref pw) (putF "horizon" (.int (40 * (2 * o + l))) (putF "roots" (.ref rt) (putF "turns" (tv (some d)) (putF "gap" (.int (gapOf o g)) (putF "letter" (.int (2 * o + l)) []))))))))
        refine k _ ⟨⟨dx, rt, pw, upd_same, sqT_butI hrt e2 bz, fun d' hd => ?_⟩, hp, by omega, hD0, hG9, hT, hRo⟩ (b2.trans bz)
        cases hd
        exact (upd_ne npx).trans e4
end

/-! ### sum of a tuple of ints -/
def rSumT (K : PySem.W.Frag) : List V → Hp → VK → Prop := fun vs H Q => ∃ (a : Addr) (ns : List Int), vs = [V.ref a] ∧ SqT K H a (ns.map V.int) ∧ Q (.int ns.sum) H
open PySem.W PyProof.Rows in
theorem cr_sumT {X : Cx} (hc : X.calm = true) : CallR X (.builtin "sum") (rSumT X.K) := by
  intro pins s σ H vs us Q I r h
  obtain ⟨a, ns, rfl, hs, q⟩ := h
  obtain ⟨its, rv, hl, _⟩ := I.tuple hs
  rw [Vals.ref1 r]
  have hi := rv.ints
  obtain ⟨xs, hx⟩ := hi.allInts.items
  have hn : numsOf its.toArray.toList = ns := by rw [show its.toArray.toList = its from rfl, hi.numsOf]
  rw [hx] at hl hn
  rw [nums_intItems] at hn
  refine ktm_sumG (I.ok.hd hc) hl fun h' tk t' hk => ?_
  rw [preSum_eq, List.take_of_length_le (by simp), hn]
  exact ⟨.int _, H, I.kept hk, ⟨_, rfl⟩, q⟩

section
variable {P : Program} {w : World} {K : PySem.W.Frag} {mg : Str → Option Value} {base : Heap} {a : Adr}
theorem ok__law_is (T : Txt K mg base a) : FnOk P w K mg base CX0 1 a.a__law_is a.d__law_is ["_law_thing", "_law_due"] spIs := by
  refine T.F__law_is.ok sc__law_is (fun vs H Q E h => ?_) (fun cdv A outer s H vs Q E hr h => ?_)
  · obtain ⟨i, j, rfl, _⟩ := h
    rfl
  · obtain ⟨i, j, rfl, k⟩ := h
    refine ⟨_, (pss_one (ps_ret (pe_and (pe_callB call_isi (by rfl) T.n_isinstance (by decide +kernel) (pa_cons (pv 0) (pa_cons (pe_bltn (v := .ty "int") (u := .type "int") (by rfl) T.n_int (by decide +kernel) rfl) pa_nil))) (pe_and (pe_not (pe_callB call_isi (by rfl) T.n_isinstance (by decide +kernel) (pa_cons (pv 0) (pa_cons (pe_bltn (v := .ty "bool") (u := .type "bool") (by rfl) T.n_bool (by decide +kernel) rfl) pa_nil)))) (pe_one (pe_cmpR op_eq (pv 0) (pv 1) (nomark _))))))), ?_⟩
    repeat walk_at "rd"
    exact k
end

/-! ### a machine's numbers, told at once; what a law is -/
structure Num (o l g : Int) : Prop where
  no : 0 ≤ o ∧ o ≤ 1000000000
  nl : 0 ≤ l ∧ l ≤ 1000000000
  ng : 1 ≤ g ∧ g ≤ 1000000000
  np : 0 < 2 * o + l
theorem NumAt.num {H : Hp} {t : Addr} {o l g : Int} (n : NumAt H t o l g) : Num o l g := ⟨⟨n.o0, n.o9⟩, ⟨n.l0, n.l9⟩, ⟨n.g1, n.g9⟩, n.pos⟩
def spLaw (K : PySem.W.Frag) : Sp := fun vs H Q _ => ∃ (b : Addr) (ns : List Int), vs = [.ref b] ∧ SqL K H b (ns.map V.int) ∧ ns.length ≤ 63 ∧ ∀ H', Q (.bl true) H'
theorem MachAt.upd {C m R : Addr} {H : Hp} {o l g : Int} {xs : List V} {u : HO} (h : MachAt C H m o l g) (e : H R = some (.lst xs)) : MachAt C (L2.upd H R u) m o l g :=
  let ⟨dx, z⟩ := h; ⟨dx, (upd_ne (ne_of z e (by intro y; cases y))).trans z⟩

/-! ### sets of ints, dict comprehensions stored in a name -/
theorem u1 {u c : Nat} (h : u + 64 < c) : u + 1 < c := by omega
/-- d[k], read ahead of d[k] op= e -/
def rGetD : V → V → Hp → VK → Prop := fun x y H Q => ∃ a v, x = .ref a ∧ DGet H a y (some v) ∧ Q v H
theorem gt_dict {X : Cx} (hu : X.A.units + 1 < cLine) : PGet X rGetD := by
  intro pins s σ H x y v u Q I rx ry h
  obtain ⟨a, z, rfl, g, q⟩ := h
  cases rx
  exact d_getItem hu I g ry fun w' s3 I3 rw' => ⟨z, H, I3, rw', q⟩
/-- the ints at a, as a set: its members, their number -/
def SetI (P : Program) (w : World) (a : Addr) (S : Int → Bool) (n : Nat) : HO := .ext fun h => h.SetOf (PySem.intKind P w) a S n
def rSetI (K : PySem.W.Frag) (P : Program) (w : World) : List V → Hp → VK → Prop := fun xs H Q => ∃ (p : Addr) (ns : List Int), xs = [.ref p] ∧ SqL K H p (ns.map V.int) ∧ ns.length ≤ 4000 ∧ ∀ (a : Addr) (n : Nat), H a = none → n ≤ ns.length → Q (.ref a) (upd H a (SetI P w a (fun k => decide (k ∈ ns)) n))
def rAddI (P : Program) (w : World) : V → List V → Hp → VK → Prop := fun x xs H Q => ∃ (a : Addr) (k : Int) (S : Int → Bool) (n : Nat), x = .ref a ∧ xs = [.int k] ∧ H a = some (SetI P w a S n) ∧ n ≤ 4000 ∧
  ∀ m : Nat, m ≤ n + 1 → Q .non (upd H a (SetI P w a (fun j => S j || decide (j = k)) m))
def rInI (P : Program) (w : World) (neg : Bool) : R2 := fun x y H Q => ∃ (k : Int) (a : Addr) (S : Int → Bool) (n : Nat), x = .int k ∧ y = .ref a ∧ H a = some (SetI P w a S n) ∧ Q (.bl (if neg then !S k else S k)) H
def tAddI (P : Program) (w : World) (to : TE) (t : TA) : TE := fun σ H Q => to σ H fun x H1 => (∃ a S n, x = .ref a ∧ H1 a = some (SetI P w a S n)) ∧ t σ H1 fun xs H2 => rAddI P w x xs H2 Q
section
open PySem.Spec PyProof.Rows
theorem setI_new {P : Program} {w : World} {H : Hp} {h : Heap} {a : Addr} {S : Int → Bool} {n : Nat} (R : h.SetOf (PySem.intKind P w) a S n) : ObjOk P w H h a (SetI P w a S n) :=
  ⟨R, let ⟨o, _, _, _, ho, _⟩ := R; ⟨o, ho⟩, fun h1 h2 ⟨o, es, ep, t, ho, r⟩ k => ⟨o, es, ep, t, k o ho, r⟩⟩
theorem mem_first (ns : List Int) (k : Int) : (firstMet (fun i => ns.getD i 0) ns.length).any (· == k) = decide (k ∈ ns) := by
  rw [firstMet_any]
  have e : (List.range ns.length).map (fun i => ns.getD i 0) = ns := by
    apply List.ext_getElem (by simp)
    intro i h1 h2
    simp [h2]
  rw [e]
  rw [Bool.eq_iff_iff, List.any_eq_true, decide_eq_true_eq]
  exact ⟨fun ⟨x, hx, e⟩ => by rw [← eq_of_beq e]; exact hx, fun h => ⟨k, h, beq_self_eq_true k⟩⟩
variable {X : Cx}
theorem setI_get {pins : List (Addr × Obj)} {σ : L2.St} {H : Hp} {s : Shared} {a : Addr} {S : Int → Bool} {n : Nat} (I : Inv X pins σ H s) (ha : H a = some (SetI X.prog X.w a S n)) : s.heap.SetOf (PySem.intKind X.prog X.w) a S n := (I.hok a _ ha).1
theorem cr_setI (hc : X.calm = true) : CallR X (.type "set") (rSetI X.K X.prog X.w) := by
  intro pins s σ H xs us Q I r h
  obtain ⟨p, ns, rfl, hq, hl, q⟩ := h
  obtain ⟨its, rv, pl, hz⟩ := I.list hq
  rw [Vals.ref1 r]
  have hlen : its.toArray.size = ns.length := by rw [List.size_toArray, ← rv.length, List.length_map]
  refine call_set_list (ns := ns) (I.ok.hd hc) pl.isList (by simpa using rv.ints) (by rw [hlen]; unfold scanBound; omega) fun h' tk hS hk => ?_
  rw [hlen] at hS
  have hS' : h'.SetOf (PySem.intKind X.prog X.w) s.heap.objs.size (fun k => decide (k ∈ ns)) (firstMet (fun i => ns.getD i 0) ns.length).length := SetOf_congr hS (fun k => mem_first ns k) rfl
  exact ⟨.ref s.heap.objs.size, _, I.laid (t' := tk) (fun b u e => hk b u (Heap.lt_size e) e) (Nat.le_refl _) (setI_new hS'), rfl, q _ _ (I.hok.fresh (Nat.le_refl _)) (firstMet_length_le _ _)⟩
theorem mt_addI : MtR X "set.add" (rAddI X.prog X.w) := by
  intro pins s σ H x xs v us Q I rx rxs h
  obtain ⟨a, k, S, n, rfl, rfl, ha, room, q⟩ := h
  cases rx
  cases rxs with
  | cons ry rt =>
    cases rt
    obtain ⟨tk, rfl⟩ := ry
    refine call_set_add (knd := PySem.intKind X.prog X.w) (k := k) (intKind_is _ _ _ _) rfl (setI_get I ha) (by unfold scanBound; omega) fun h' sb new => ?_
    have he : ∃ u, h'.get? a = some u := let ⟨o, _, _, _, ho, _⟩ := new; ⟨o, ho⟩
    exact ⟨.non, _, I.write (e := a) (t' := _) (by rw [ha]; trivial) (.inl rfl) (fun b u hb hu => (sb.2 b hb).trans hu) he (setI_new new), rfl, q _ (by split <;> omega)⟩
theorem or_inI : OpR X (compareOp .In) (rInI X.prog X.w false) := by
  intro pins s σ H x y v u Q I rx ry h
  obtain ⟨k, a, S, n, rfl, rfl, ha, q⟩ := h
  obtain ⟨tk, rfl⟩ := rx
  cases ry
  exact wpAny_inSet_of (intKind_is _ _ _ _) rfl (setI_get I ha) ⟨.bl (S k), H, I.tok _, rfl, q⟩
theorem or_ninI : OpR X (compareOp .NotIn) (rInI X.prog X.w true) := by
  intro pins s σ H x y v u Q I rx ry h
  obtain ⟨k, a, S, n, rfl, rfl, ha, q⟩ := h
  obtain ⟨tk, rfl⟩ := rx
  cases ry
  exact wpAny_notInSet_of (intKind_is _ _ _ _) rfl (setI_get I ha) ⟨.bl (!S k), H, I.tok _, rfl, q⟩
end
section
open PySem.Spec PyProof.Rows
variable {X : Cx} {o e : Expr} {es : List Expr} {to : TE} {t : TA} {apos cpos : Pos}
theorem pe_addI (ho : PE X o to) (ha : PA X (e :: es) t)
    (hbase : attributeBase o "add" X.env (eval o X.env) = eval o X.env := by rfl)
    (hfew : ((backTo cpos (starEach (e :: es) X.env)).all (fun x => !x.1) && (backToKw cpos (keywordEach [] X.env)).all (fun x => x.1.isSome) && decide ((e :: es).length + ([] : List Keyword).length + (if ([] : List Keyword).isEmpty then 0 else 1) < 30)) = true := by rfl)
    (hline : (apos.endLine == cpos.line) = true := by rfl) (hs : starEach (e :: es) X.env = (false, eval e X.env) :: starEach es X.env := by rfl) (hplain : (backTo cpos (starEach es X.env)).any (·.1) = false := by rfl) :
    PE X (.Call (.Attribute o "add" apos) (e :: es) [] cpos) (tAddI X.prog X.w to t) := by
  refine ⟨fun pins s σ H Q I h => wpAny_Call_method_late hbase hfew hline rfl (thn (ho.run pins s σ H _ I h) fun v s1 ⟨x, H1, I1, r1, ty, q1⟩ => ?_)⟩
  obtain ⟨a, S, n, rfl, hka⟩ := ty
  have hS := setI_get I1 hka
  cases r1
  refine ⟨"set", "set.add", F.plainAttrs_set, F.slot_set_add, F.type_set_add, hS.typeIs, hS.noDict, ?_⟩
  have hA := ha.run cpos pins s1 σ H1 _ I1 q1
  rw [hs] at hA ⊢
  refine Calls.callWith_builtin ?_ (Calls.evalArgs_plain (thn hA fun us s2 ⟨vs, H2, I2, r2, q2⟩ => mt_addI pins s2 σ H2 (.ref a) vs (.ref a) us Q I2 rfl r2 q2))
  show (false || (backTo cpos (starEach es X.env)).any (·.1)) = false
  rw [hplain] <;> rfl
theorem sw_trueD {ek ev : Expr} {gs : List Comprehension} {scope : Scope} {pos py : Pos} {y : Str} {l : Nat} {env : Env} (hk : env.scope.kind = .function) (hy : env.scope.names.lookup y = some .local) (hl : (py.line == pos.line) = true) (ha : (scope.names.any fun (n, k) => n == y && (k == .local || k == .cell)) = false) :
    swapsWith (.DictComp ek ev gs scope pos) (some (.Name y py)) l env = pure true := by
  have hb : env.blockKind = .function := by unfold Env.blockKind; rw [hk]; rfl
  have ky : env.kindOf y = some .local := hy
  unfold swapsWith
  simp only [hb, ky, ha, Expr.pos, hl]
  rfl
theorem ps_setDc {i : Nat} {y : Str} {py : Pos} {kx vx tg iter : Expr} {ifs : List Expr} {scope : Scope} {own : List (Str × Nat)} {pos spos : Pos} {wi : TI} {g : TG} {tt : TT} {tk tv : TE} (hc : X.calm = true) (hN : X.N.Nodup) (hy : X.N[i]? = some y) (hyl : X.env.scope.names.lookup y = some .local)
    (hsw : swapsWith (.DictComp kx vx [⟨tg, iter, ifs, 0⟩] scope pos) (some (.Name y py)) spos.line X.env = pure true) (hi : PI X tg iter wi) (ok : BlkOk X.N X.env.scope scope own)
    (hg : ∀ (s : Shared) (H : Hp) (C : Addr) (cl : List (Str × Addr)) (fp : List Addr), PG (X.blk s H scope (compEnvC scope cl C X.env) fp) tg g) (ht : ∀ (s : Shared) (H : Hp) (C : Addr) (cl : List (Str × Addr)) (fp : List Addr), PTs (X.blk s H scope (compEnvC scope cl C X.env) fp) ifs tt)
    (hk : ∀ (s : Shared) (H : Hp) (C : Addr) (cl : List (Str × Addr)) (fp : List Addr), PE (X.blk s H scope (compEnvC scope cl C X.env) fp) kx tk)
    (he : ∀ (s : Shared) (H : Hp) (C : Addr) (cl : List (Str × Addr)) (fp : List Addr), PE (X.blk s H scope (compEnvC scope cl C X.env) fp) vx tv) (hs : ∀ x, foldedSetIterable iter X.env x = pure x := by intro _; rfl) :
    PS X (.Assign [.Name y py] (.DictComp kx vx [⟨tg, iter, ifs, 0⟩] scope pos) spos) (tAsg (tDc wi g tt tk tv (own.map (·.2))) (gName i)) := by
  refine ⟨fun pins s σ H D I h => ?_⟩
  rw [exec_Assign_Name_used _ _ _ _ hsw]
  have h : tDc wi g tt tk tv (own.map (·.2)) σ H (fun x H1 => gName i x σ H1 D.nx) := h
  have run := dc_core (Qf := fun _ s' => SP X pins D .next s') (use := some (assign (.Name y py) X.env)) (pos := pos) (pos' := firstIterPos [⟨tg, iter, ifs, 0⟩] pos) hc hN I hi ok hg ht hk he hs h fun L C s' m H' I' q hn f => by
    show wpAny _ _ (assign (.Name y py) X.env (.ref L)) _ _ _
    refine wpAny_assign_Name (store_ok2 (v := V.ref L) I' hN hy (.inl hyl) rfl (fun s2 I2 ⟨a, sb, ha⟩ => ?_) (.inr hyl))
    obtain ⟨f0, f1, f2, f3, f4, f5⟩ := f
    have haC : C ≠ a := ha.elim (fun z => by rw [z]; exact f1) fun z e => f4 y a z e.symm
    exact ⟨m, hn.sameBut sb haC, fun h3 sb3 => ⟨_, H', I2.turned (t' := s2.toks) (fun b o hb e => (sb3.2 b hb).trans e) f0 f1 f3 f4 f5, q⟩⟩
  refine wpAny_bind (wpAny_standAt (wpAny_bind (wpAny_bind (thn run fun _ s' hq => wpAny_pure (wpAny_pure hq)))))
end

/-! ### a set written over: it is no table and no code object -/
instance {P : Program} {w : World} {a : Addr} {S : Int → Bool} {n : Nat} : Nt (SetI P w a S n) := ⟨rfl⟩
theorem setI_ne_code {P : Program} {w : World} {a c : Addr} {S : Int → Bool} {n : Nat} {q : Str} : SetI P w a S n ≠ LamX.CodeO c q := fun e => by
  have e : (fun h : Heap => h.SetOf (PySem.intKind P w) a S n) = fun h : Heap => ∃ (oc : Obj) (vs : Array Value) (t : Tok), h.get? c = some oc ∧ oc.data = .fields vs ∧ vs[1]? = some (.str q t) := HO.ext.inj e
  let ob : Obj := { cls := .none, data := .fields #[.none, .str q default] }
  let h : Heap := { objs := Array.replicate (c + 1) ob }
  have hg : ∀ (b : Addr) (o : Obj), h.get? b = some o → o = ob := fun b o hb => by
    have : (Array.replicate (c + 1) ob)[b]? = none ∨ (Array.replicate (c + 1) ob)[b]? = some ob := by
      rw [Array.getElem?_replicate]
      split
      · exact .inr rfl
      · exact .inl rfl
    unfold Heap.get? at hb
    rcases this with z | z
    · rw [show h.objs[b]? = none from z] at hb; cases hb
    · rw [show h.objs[b]? = some ob from z] at hb
      exact (Option.some.inj hb).symm
  have hc : h.get? c = some ob := by
    unfold Heap.get?
    rw [show h.objs[c]? = some ob by
      show (Array.replicate (c + 1) ob)[c]? = some ob
      rw [Array.getElem?_replicate, if_pos (Nat.lt_succ_self c)]]
  have r := (congrFun e h).mpr ⟨ob, _, default, hc, rfl, rfl⟩
  obtain ⟨o, es, ep, t, h1, _, h3, _⟩ := r
  obtain rfl := hg _ _ h1
  cases h3
theorem Same.overSet {P : Program} {w : World} {H H' : Hp} {D : Addr} {o : HO} {S : Int → Bool} {n : Nat} (s : Same H H') (n0 : H D = Option.none) (e : H' D = Option.some (SetI P w D S n)) : Same H (L2.upd H' D o) :=
  ⟨fun b v h m => (upd_ne (ne_of_none h n0)).trans (s.at_ b v h m), fun b ps h => let ⟨qs, z⟩ := s.tb b ps h; ⟨qs, (upd_ne (ne_of_none h n0)).trans z⟩, fun t q hq => by
    obtain ⟨ps, h1, h2, h3⟩ := s.ts t q hq
    have n1 : q.1 ≠ D := fun z => by rw [z, e] at h1; cases h1
    refine ⟨ps, by rw [upd_ne n1]; exact h1, h2, fun pos cv hc => ?_⟩
    obtain ⟨c, ec, hco⟩ := h3 pos cv hc
    have n2 : c ≠ D := fun z => by rw [z, e] at hco; exact setI_ne_code (Option.some.inj hco)
    exact ⟨c, ec, by rw [upd_ne n2]; exact hco⟩⟩

/-! ### walks over a list or a tuple -/
def iSeq (K : PySem.W.Frag) (tl : TE) : TI := fun σ H R => iList K tl σ H R ∨ iTup K tl σ H R
theorem pi_seq {X : Cx} {tg l : Expr} {tl : TE} (hl : PE X l tl) : PI X tg l (iSeq X.K tl) := ⟨fun pins s σ H R I h => h.elim ((pi_list hl).run pins s σ H R I) ((pi_tup hl).run pins s σ H R I)⟩
def SeqV (H : Hp) (p : Addr) (xs : List V) : Prop := H p = some (.lst xs) ∨ H p = some (.tup xs)
theorem SeqV.keep {H H' : Hp} {p : Addr} {xs : List V} (h : SeqV H p xs) (s : Same H H') : SeqV H' p xs := h.imp (fun e => s _ _ e) (fun e => s _ _ e)
theorem SeqV.sq {K : PySem.W.Frag} {H : Hp} {p : Addr} {xs : List V} (h : SeqV H p xs) : SqL K H p xs ∨ SqT K H p xs := h.imp SqL.of SqT.of
/-- a row that stays a list, or a tuple, with these items -/
def SeqK (H H' : Hp) (p : Addr) (xs : List V) : Prop := (H p = some (.lst xs) → H' p = some (.lst xs)) ∧ (H p = some (.tup xs) → H' p = some (.tup xs))
theorem Same.seqK {H H' : Hp} {p : Addr} {xs : List V} (s : Same H H') : SeqK H H' p xs := ⟨fun e => s _ _ e, fun e => s _ _ e⟩
theorem r_forSeq {K : PySem.W.Frag} {tl : TE} {g : TG} {tb : TS} {D : Ends} {σ : St} {H : Hp} {p : Addr} {xs : List V} (Pv : Nat → St → Hp → Prop) (hx : ∀ Q : VK, Q (.ref p) H → tl σ H Q) (h : SeqV H p xs) (h0 : Pv 0 σ H) (hk : ∀ i σ H', Pv i σ H' → SeqK H H' p xs)
    (hs : ∀ i x σ H', xs[i]? = some x → Pv i σ H' → g x σ H' fun σ2 H2 => tb { D with nx := Pv (i + 1), ct := Pv (i + 1), bk := D.nx } σ2 H2) (hd : ∀ σ H', Pv xs.length σ H' → D.nx σ H') : tFor (iSeq K tl) g tb D σ H := by
  rcases h with h | h
  · exact r_for (.inl (r_iL (hx _ ⟨p, rfl, ⟨_, SqL.of h⟩, for_list (K := K) (a := p) (xs := xs) Pv h0 (fun i σ H' _ q => SqL.of ((hk i σ H' q).1 h)) hs hd⟩)))
  · exact r_for (.inr (r_iT (hx _ ⟨p, rfl, ⟨_, SqT.of h⟩, for_tup (K := K) (a := p) (xs := xs) Pv h0 (fun i σ H' _ q => SqT.of ((hk i σ H' q).2 h)) hs hd⟩)))
theorem r_lcSeq {K : PySem.W.Frag} {tl : TE} {g : TG} {tt : TT} {te : TE} {vs : List Nat} {σ : St} {H : Hp} {Qd : Addr → Hp → Prop} {p : Addr} {xs : List V} (Pv : Addr → Nat → Hp → Prop) (hx : ∀ Q : VK, Q (.ref p) H → tl σ H Q) (h : SeqV H p xs) (h0 : ∀ D, H D = none → Pv D 0 (upd H D (.lst []))) (hk : ∀ D i H', H D = none → Pv D i H' → SeqK H H' p xs)
    (hs : ∀ D i x H', H D = none → xs[i]? = some x → Pv D i H' → g x (wipe σ vs) H' fun σ2 H2 => wipe σ2 vs = wipe σ vs ∧ tt σ2 H2 fun b H3 =>
      if b = true then te σ2 H3 fun y H4 => ∃ acc, H4 D = some (.lst acc) ∧ acc.length < sizeLine ∧ Pv D (i + 1) (upd H4 D (.lst (acc ++ [y]))) else Pv D (i + 1) H3) (hd : ∀ D H', H D = none → Pv D xs.length H' → Qd D H') : iSeq K tl σ H fun J H1 => ∀ D, H1 D = none → ∃ W : Nat → Nat → Hp → Prop, (∃ m, W 0 m (upd H1 D (.lst []))) ∧ ∀ i m H, W i m H →
      (J.stop i H ∧ Qd D H) ∨ (J.go i H ∧ ∃ Nx : Hp → Prop, (∀ H', Nx H' → ∃ m', m' < m ∧ W (i + 1) m' H') ∧ ∀ x H', J.yld i H x H' → g x (wipe σ vs) H' fun σ2 H2 => wipe σ2 vs = wipe σ vs ∧ tt σ2 H2 fun b H3 =>
        if b = true then te σ2 H3 fun y H4 => ∃ acc, H4 D = some (.lst acc) ∧ acc.length < sizeLine ∧ Nx (upd H4 D (.lst (acc ++ [y]))) else Nx H3) := by
  rcases h with h | h
  · exact (.inl (r_iL (hx _ ⟨p, rfl, ⟨_, SqL.of h⟩, fun D hD => lc_list (K := K) (a := p) (xs := xs) (Pv D) (h0 D hD) (fun i H' _ q => SqL.of ((hk D i H' hD q).1 h)) (fun i x H' a b => hs D i x H' hD a b) (fun H' q => hd D H' hD q)⟩)))
  · exact (.inr (r_iT (hx _ ⟨p, rfl, ⟨_, SqT.of h⟩, fun D hD => lc_tup (K := K) (a := p) (xs := xs) (Pv D) (h0 D hD) (fun i H' _ q => SqT.of ((hk D i H' hD q).2 h)) (fun i x H' a b => hs D i x H' hD a b) (fun H' q => hd D H' hD q)⟩)))
theorem r_enS2 {K : PySem.W.Frag} {r : Addr} {xs : List V} {ta : TA} {g : TG} {tb : TS} {D : Ends} {σ : St} {H : Hp} (ha : ∀ QA : List V → Hp → Prop, QA [.ref r] H → ta σ H QA) (hq : SeqV H r xs) (Pv : Nat → St → Hp → Prop) (h0 : Pv 0 σ H) (hl : ∀ i σ H', Pv i σ H' → SeqK H H' r xs)
    (hs : ∀ i x σ H T H', xs[i]? = some x → Pv i σ H → H T = none → H' = upd H T (.tup [.int (i : Nat), x]) → g (.ref T) σ H' fun σ2 H2 => tb { D with nx := Pv (i + 1), ct := Pv (i + 1), bk := D.nx } σ2 H2) (hd : ∀ σ H, Pv xs.length σ H → D.nx σ H) : tFor (iEnumS K ta) g tb D σ H := by
  refine r_for (ha _ ⟨r, xs, rfl, ?_⟩)
  rcases hq with hq | hq
  · exact .inl ⟨SqL.of hq, for_en _ _ (.inl ⟨rfl, rfl⟩) Pv h0 (fun i σ H' _ pv => SqL.of ((hl i σ H' pv).1 hq)) hs hd⟩
  · exact .inr ⟨SqT.of hq, for_en _ _ (.inr ⟨rfl, rfl⟩) Pv h0 (fun i σ H' _ pv => SqT.of ((hl i σ H' pv).2 hq)) hs hd⟩

/-! ### faults of rows -/
abbrev L3 := Int × Int × Int
def triV (l : L3) : List V := [.int l.1, .int l.2.1, .int l.2.2]
def TrisAt (H : Hp) (xs : List V) (ls : List L3) : Prop := xs.length = ls.length ∧ ∀ (i : Nat) (l : L3), ls[i]? = some l → ∃ t : Addr, xs[i]? = some (.ref t) ∧ H t = some (.tup (triV l))
theorem TrisAt.keep {H H' : Hp} {xs : List V} {ls : List L3} (h : TrisAt H xs ls) (s : Same H H') : TrisAt H' xs ls := ⟨h.1, fun i g hg => let ⟨t, e, z⟩ := h.2 i g hg; ⟨t, e, s _ _ z⟩⟩
theorem TrisAt.upd {H : Hp} {L : Addr} {zs xs : List V} {o : HO} {ls : List L3} (h : TrisAt H xs ls) (e : H L = some (.lst zs)) : TrisAt (L2.upd H L o) xs ls := ⟨h.1, fun i g hg => let ⟨t, e1, z⟩ := h.2 i g hg; ⟨t, e1, (upd_ne (fun y => by rw [y, e] at z; cases z)).trans z⟩⟩
theorem TrisAt.nil {H : Hp} : TrisAt H [] [] := ⟨rfl, fun i g h => by simp at h⟩
theorem TrisAt.snoc {H : Hp} {xs : List V} {ls : List L3} {t : Addr} {g : L3} (h : TrisAt H xs ls) (e : H t = some (.tup (triV g))) : TrisAt H (xs ++ [.ref t]) (ls ++ [g]) := ⟨by rw [List.length_append, List.length_append, h.1]; rfl, fun i g' hg => by
  by_cases hi : i < ls.length
  · rw [List.getElem?_append_left hi] at hg
    rw [List.getElem?_append_left (by rw [h.1]; exact hi)]
    exact h.2 i g' hg
  · have hl := (List.getElem?_eq_some_iff.mp hg).1
    rw [List.length_append, List.length_singleton] at hl
    obtain rfl : i = ls.length := by omega
    rw [List.getElem?_append_right (Nat.le_refl _), Nat.sub_self] at hg
    obtain rfl : g = g' := by simpa using hg
    exact ⟨t, by rw [← h.1, List.getElem?_append_right (Nat.le_refl _), Nat.sub_self]; rfl, e⟩⟩
theorem TrisAt.get {H : Hp} {xs : List V} {ls : List L3} {i : Nat} {x : V} (h : TrisAt H xs ls) (hx : xs[i]? = some x) : ∃ (t : Addr) (l : L3), x = .ref t ∧ ls[i]? = some l ∧ H t = some (.tup [.int l.1, .int l.2.1, .int l.2.2]) := by
  obtain ⟨l, hl⟩ : ∃ l, ls[i]? = some l := ⟨_, List.getElem?_eq_getElem (by have := (List.getElem?_eq_some_iff.mp hx).1; rw [h.1] at this; exact this)⟩
  obtain ⟨t, e, z⟩ := h.2 i l hl
  exact ⟨t, l, Option.some.inj (hx.symm.trans e), hl, z⟩
/-- the first number below m at which P holds -/
def first (P : Nat → Bool) (m : Nat) : Option Nat := (List.range m).find? P
theorem first_none {P : Nat → Bool} {m : Nat} (h : ∀ i, i < m → P i = false) : first P m = none := by
  unfold first
  rw [List.find?_eq_none]
  intro i hi
  rw [h i (List.mem_range.mp hi)]
  exact Bool.false_ne_true
theorem first_some {P : Nat → Bool} {m i : Nat} (hi : i < m) (h : P i = true) (hb : ∀ j, j < i → P j = false) : first P m = some i := by
  unfold first
  rw [List.find?_range_eq_some]
  exact ⟨h, List.mem_range.mpr hi, fun j hj => by rw [hb j hj]; rfl⟩
theorem first_no {P : Nat → Bool} {m : Nat} (h : first P m = none) : ∀ i, i < m → P i = false := fun i hi => by
  unfold first at h
  rw [List.find?_eq_none] at h
  exact Bool.eq_false_iff.mpr (h i (List.mem_range.mpr hi))
theorem first_yes {P : Nat → Bool} {m i : Nat} (h : first P m = some i) : i < m ∧ P i = true ∧ ∀ j, j < i → P j = false := by
  unfold first at h
  rw [List.find?_range_eq_some] at h
  exact ⟨List.mem_range.mp h.2.1, h.1, fun j hj => by have := h.2.2 j hj; simpa using this⟩
theorem first_congr {P P' : Nat → Bool} {m : Nat} (h : ∀ i, i < m → P i = P' i) : first P m = first P' m := by
  cases e : first P' m with
  | none => exact first_none fun i hi => (h i hi).trans (first_no e i hi)
  | some i =>
    obtain ⟨h1, h2, h3⟩ := first_yes e
    exact first_some h1 ((h i h1).trans h2) fun j hj => (h j (by omega)).trans (h3 j hj)
abbrev Flt := Option (Str × Int)
def FltAt (H : Hp) (v : V) : Flt → Prop
  | none => v = .non
  | some (s, i) => ∃ p, v = .ref p ∧ H p = some (.tup [.str s, .int i])
theorem FltAt.keep {H H' : Hp} {v : V} {f : Flt} (h : FltAt H v f) (s : Same H H') : FltAt H' v f := by
  cases f with
  | none => exact h
  | some x => obtain ⟨p, e, h⟩ := h; exact ⟨p, e, s _ _ h⟩
def atIx (w : Str) (o : Option Nat) : Flt := Option.map (fun i : Nat => (w, (i : Int))) o
theorem r_orT {K : PySem.W.Frag} {ta tb : TE} {σ : St} {H : Hp} {Q : VK} (h : ta σ H fun x H1 => ∃ k, TruV K x H1 k ∧ if k = true then Q x H1 else tb σ H1 Q) : tOrT K ta tb σ H Q := h
/-- f or g, of faults -/
theorem r_orF {K : PySem.W.Frag} {x : V} {H : Hp} {f : Flt} {A B : Prop} (h : FltAt H x f) (h1 : f ≠ none → A) (h2 : f = none → B) : ∃ k, TruV K x H k ∧ if k = true then A else B := by
  cases f with
  | none =>
    have h : x = .non := h
    subst h
    exact ⟨false, rfl, iteF (h2 rfl)⟩
  | some f =>
    obtain ⟨p, rfl, e⟩ := h
    exact ⟨true, .inr (.inl ⟨_, SqT.of e, rfl⟩), iteT (h1 (fun z => nomatch z))⟩
/-! what is wrong -/
def badForm (l : L3) : Bool := !decide (0 ≤ l.2.2 ∧ l.2.2 ≤ 1000000000000000)
def formF (rs : List L3) : Flt := atIx "form" (first (fun i => badForm (rs.getD i (0, 0, 0))) rs.length)
def badHand (n fs fr : Int) (g : Int × Int) : Bool := !decide ((fs ≤ g.1 ∧ g.1 < n) ∧ (fr ≤ g.2 ∧ g.2 < n) ∧ g.1 ≠ g.2)
def handF (n fs fr : Int) (ps : List (Int × Int)) : Flt := atIx "hand" (first (fun i => badHand n fs fr (ps.getD i (0, 0))) ps.length)
def againF (keys taken : List Int) : Flt := atIx "again" (first (fun i => decide (keys.getD i 0 ∈ taken ++ keys.take i)) keys.length)
def nobodyF (wanted keys : List Int) : Flt := (wanted.find? fun k => !decide (k ∈ keys)).map fun k => ("nobody", k)
/-- when a hand knows -/
def knownOf (rs : List L3) (roots : List Int) (D s : Int) : Int := if s ∈ roots then 0 else ((rs.find? fun l => decide (l.2.1 = s)).map fun l => l.2.2 + D).getD 0
def earlyF (rs : List L3) (roots : List Int) (D : Int) : Flt := atIx "early" (first (fun i => decide ((rs.getD i (0, 0, 0)).2.2 < knownOf rs roots D (rs.getD i (0, 0, 0)).1)) rs.length)
def near1 (w : Int) (m q : Int × Int) : Bool := decide (q.1 = m.1 ∧ -w < m.2 - q.2 ∧ m.2 - q.2 < w)
def nearP (w : Int) (prev : List (Int × Int)) (m : Int × Int) : Bool := prev.any (near1 w m)
def rowNear (w : Int) (marks : List (List (Int × Int))) (i : Nat) : Bool := (List.range (marks.getD i []).length).any fun j => nearP w ((marks.take i).flatten ++ (marks.getD i []).take j) ((marks.getD i []).getD j (0, 0))
def nearF (why : Str) (marks : List (List (Int × Int))) (w : Int) : Flt := if w = 0 then none else atIx why (first (rowNear w marks) marks.length)
/-! times kept by hand and slot -/
def kk (h s : Int) : List L2.Key := [.inl h, .inl s]
theorem kk_inj {h s h' s' : Int} : kk h s = kk h' s' ↔ h = h' ∧ s = s' := by
  unfold kk
  simp
structure Marks (w : Int) (kvs : List (List L2.Key × V)) (prev : List (Int × Int)) : Prop where
  of : ∀ h s v, valV kvs (kk h s) = some v → ∃ t, v = .int t ∧ (h, t) ∈ prev ∧ s = t / w
  at_ : ∀ q, q ∈ prev → valV kvs (kk q.1 (q.2 / w)) = some (.int q.2)
  len : kvs.length ≤ prev.length
theorem Marks.nil {w : Int} : Marks w [] [] := ⟨fun h s v e => (nomatch e), fun q hq => (nomatch hq), Nat.le_refl _⟩
theorem slot_near {w t t' : Int} (hw : 0 < w) (h1 : -w < t - t') (h2 : t - t' < w) : t' / w = t / w - 1 ∨ t' / w = t / w ∨ t' / w = t / w + 1 := by
  have a1 := Int.ediv_mul_le t (show w ≠ 0 by omega)
  have a2 := Int.lt_ediv_add_one_mul_self t hw
  have b1 := Int.ediv_mul_le t' (show w ≠ 0 by omega)
  have b2 := Int.lt_ediv_add_one_mul_self t' hw
  obtain ⟨x, hx⟩ : ∃ x, t / w = x := ⟨_, rfl⟩
  obtain ⟨y, hy⟩ : ∃ y, t' / w = y := ⟨_, rfl⟩
  rw [hx] at a1 a2 ⊢
  rw [hy] at b1 b2 ⊢
  rw [Int.add_mul, Int.one_mul] at a2 b2
  by_cases c1 : y + 2 ≤ x
  · have : (y + 2) * w ≤ x * w := Int.mul_le_mul_of_nonneg_right c1 (by omega)
    rw [Int.add_mul] at this
    omega
  · by_cases c2 : x + 2 ≤ y
    · have : (x + 2) * w ≤ y * w := Int.mul_le_mul_of_nonneg_right c2 (by omega)
      rw [Int.add_mul] at this
      omega
    · omega
theorem same_slot {w t t' : Int} (hw : 0 < w) (h : t / w = t' / w) : -w < t - t' ∧ t - t' < w := by
  have a1 := Int.ediv_mul_le t (show w ≠ 0 by omega)
  have a2 := Int.lt_ediv_add_one_mul_self t hw
  have b1 := Int.ediv_mul_le t' (show w ≠ 0 by omega)
  have b2 := Int.lt_ediv_add_one_mul_self t' hw
  rw [h] at a1 a2
  rw [Int.add_mul, Int.one_mul] at a2 b2
  omega
/-- what a look at three slots tells -/
theorem Marks.near {w : Int} {kvs : List (List L2.Key × V)} {prev : List (Int × Int)} (h : Marks w kvs prev) (hw : 0 < w) {a t : Int} :
    nearP w prev (a, t) = true ↔ ∃ s, (s = t / w - 1 ∨ s = t / w ∨ s = t / w + 1) ∧ ∃ t', valV kvs (kk a s) = some (.int t') ∧ -w < t - t' ∧ t - t' < w := by
  unfold nearP near1
  rw [List.any_eq_true]
  constructor
  · rintro ⟨q, hq, e⟩
    obtain ⟨e1, e2, e3⟩ := of_decide_eq_true e
    dsimp only at e1 e2 e3
    refine ⟨q.2 / w, slot_near hw e2 e3, q.2, ?_, e2, e3⟩
    have := h.at_ q hq
    rwa [e1] at this
  · rintro ⟨s, _, t', e, h1, h2⟩
    obtain ⟨t2, e2, hm, _⟩ := h.of a s _ e
    obtain rfl := V.int.inj e2
    exact ⟨(a, t'), hm, decide_eq_true ⟨rfl, h1, h2⟩⟩
theorem valV_put {kvs : List (List L2.Key × V)} {k j : List L2.Key} {v : V} : valV (putK kvs k v) j = if j = k then some v else valV kvs j := by
  unfold putK
  split
  · rename_i h
    rw [valV_map]
    rw [valV_any] at h
    by_cases c : j = k
    · rw [if_pos c]
      subst c
      obtain ⟨x, hx⟩ := Option.isSome_iff_exists.mp h
      rw [hx]
      simp
    · rw [if_neg c]
      cases valV kvs j <;> simp [c]
  · rename_i h
    rw [valV_any] at h
    exact valV_snoc k j v kvs (by simpa using h)
theorem Marks.put {w : Int} {kvs : List (List L2.Key × V)} {prev : List (Int × Int)} (h : Marks w kvs prev) (hw : 0 < w) {a t : Int} (hn : nearP w prev (a, t) = false) : Marks w (putK kvs (kk a (t / w)) (.int t)) (prev ++ [(a, t)]) := by
  have hno : ∀ q, q ∈ prev → ¬ (q.1 = a ∧ q.2 / w = t / w) := fun q hq ⟨e1, e2⟩ => by
    have : nearP w prev (a, t) = true := by
      unfold nearP near1
      rw [List.any_eq_true]
      have h2 := same_slot hw e2.symm
      exact ⟨q, hq, decide_eq_true ⟨e1, h2.1, h2.2⟩⟩
    rw [hn] at this
    exact Bool.false_ne_true this
  refine ⟨fun b s v e => ?_, fun q hq => ?_, ?_⟩
  · rw [valV_put] at e
    split at e
    · rename_i c
      obtain ⟨rfl, rfl⟩ := kk_inj.mp c
      obtain rfl := Option.some.inj e
      exact ⟨t, rfl, List.mem_append_right _ (List.mem_singleton.mpr rfl), rfl⟩
    · obtain ⟨t', e1, e2, e3⟩ := h.of b s v e
      exact ⟨t', e1, List.mem_append_left _ e2, e3⟩
  · rw [valV_put]
    rcases List.mem_append.mp hq with hq | hq
    · rw [if_neg fun z => hno q hq (kk_inj.mp z)]
      exact h.at_ q hq
    · rw [List.mem_singleton] at hq
      subst hq
      rw [if_pos rfl]
  · have h1 := h.len
    rw [List.length_append, List.length_singleton]
    unfold putK
    split
    · rw [List.length_map]; omega
    · rw [List.length_append, List.length_singleton]; omega

/-! ### the program's faults, read -/
theorem r_inI {P : Program} {w : World} {H : Hp} {Q : VK} {k : Int} {a : Addr} {S : Int → Bool} {n : Nat} (e : H a = some (SetI P w a S n)) (q : Q (.bl (S k)) H) : rInI P w false (.int k) (.ref a) H Q := ⟨k, a, S, n, rfl, rfl, e, q⟩
theorem r_ninI {P : Program} {w : World} {H : Hp} {Q : VK} {k : Int} {a : Addr} {S : Int → Bool} {n : Nat} (e : H a = some (SetI P w a S n)) (q : Q (.bl (!S k)) H) : rInI P w true (.int k) (.ref a) H Q := ⟨k, a, S, n, rfl, rfl, e, q⟩
theorem r_addI {P : Program} {w : World} {to : TE} {t : TA} {σ : St} {H : Hp} {Q : VK} (h : to σ H fun x H1 => (∃ a S n, x = .ref a ∧ H1 a = some (SetI P w a S n)) ∧ t σ H1 fun xs H2 => rAddI P w x xs H2 Q) : tAddI P w to t σ H Q := h
theorem isiLT {K : PySem.W.Frag} {H : Hp} {p : Addr} {xs : List V} (h : SeqV H p xs) : ∃ t, TyX K H (.ref p) t ∧ PySem.W.kitAny K t [.type "list", .type "tuple"] = some true := by
  rcases h with h | h
  · exact ⟨_, .base (.lst h), kitAny_cons (b := true) (kit_ty (by decide +kernel)) (fun z => Bool.noConfusion z) fun _ => rfl⟩
  · exact ⟨_, .base (.tup h), kitAny_cons (b := false) (kit_ty (by decide +kernel)) (fun _ => kitAny_cons (b := true) (kit_ty (by decide +kernel)) (fun z => Bool.noConfusion z) fun _ => rfl) (fun z => Bool.noConfusion z)⟩
theorem r_isiTu {K : PySem.W.Frag} {H : Hp} {Q : VK} {p : Addr} {xs : List V} {n : String} (b : Bool) (h : H p = some (.tup xs)) (hk : kitB "tuple" n = some b) (q : Q (.bl b) H) : rIsi K [.ref p, .ty n] H Q := r_isi (.base (.tup h)) (kit_ty hk) q
theorem at_end (zs : List Int) (s : Int) : atI ((zs ++ [s]).map V.int) (-1) = some (.int s) := by
  have e1 : ixN ((zs ++ [s]).map V.int).length (-1) = some zs.length := by
    rw [List.length_map, List.length_append, List.length_singleton]
    unfold ixN
    rw [if_neg (by decide), if_pos (by omega)]
    congr 1
    omega
  unfold atI
  rw [e1]
  show ((zs ++ [s]).map V.int)[zs.length]? = some (.int s)
  rw [List.getElem?_map, List.getElem?_append_right (Nat.le_refl _), Nat.sub_self]
  rfl
def okStart (s : Int) : Bool := decide (0 ≤ s ∧ s ≤ 1000000000000000)
def formS (ss : List Int) : Flt := atIx "form" (first (fun i => !okStart (ss.getD i 0)) ss.length)
def RowsG (H : Hp) (k : Nat) (xs : List V) (ss : List Int) : Prop := xs.length = ss.length ∧ ∀ (i : Nat) (s : Int), ss[i]? = some s → ∃ (t : Addr) (zs : List Int), xs[i]? = some (.ref t) ∧ H t = some (.tup ((zs ++ [s]).map V.int)) ∧ zs.length = k
theorem RowsG.get {H : Hp} {k : Nat} {xs : List V} {ss : List Int} {i : Nat} {x : V} (h : RowsG H k xs ss) (hx : xs[i]? = some x) : ∃ (t : Addr) (zs : List Int) (s : Int), x = .ref t ∧ ss[i]? = some s ∧ H t = some (.tup ((zs ++ [s]).map V.int)) ∧ zs.length = k := by
  obtain ⟨l, hl⟩ : ∃ l, ss[i]? = some l := ⟨_, List.getElem?_eq_getElem (by have := (List.getElem?_eq_some_iff.mp hx).1; rw [h.1] at this; exact this)⟩
  obtain ⟨t, zs, e, z⟩ := h.2 i l hl
  exact ⟨t, zs, l, Option.some.inj (hx.symm.trans e), hl, z⟩
theorem RowsG.keep {H H' : Hp} {k : Nat} {xs : List V} {ss : List Int} (h : RowsG H k xs ss) (s : Same H H') : RowsG H' k xs ss := ⟨h.1, fun i g hg => let ⟨t, zs, e, z, l⟩ := h.2 i g hg; ⟨t, zs, e, s _ _ z, l⟩⟩
def PairsAt (H : Hp) (xs : List V) (ps : List (Int × Int)) : Prop := xs.length = ps.length ∧ ∀ (i : Nat) (g : Int × Int), ps[i]? = some g → ∃ t : Addr, xs[i]? = some (.ref t) ∧ H t = some (.tup [.int g.1, .int g.2])
theorem PairsAt.keep {H H' : Hp} {xs : List V} {ls : List (Int × Int)} (h : PairsAt H xs ls) (s : Same H H') : PairsAt H' xs ls := ⟨h.1, fun i g hg => let ⟨t, e, z⟩ := h.2 i g hg; ⟨t, e, s _ _ z⟩⟩
theorem PairsAt.upd {H : Hp} {L : Addr} {zs xs : List V} {o : HO} {ls : List (Int × Int)} (h : PairsAt H xs ls) (e : H L = some (.lst zs)) : PairsAt (L2.upd H L o) xs ls := ⟨h.1, fun i g hg => let ⟨t, e1, z⟩ := h.2 i g hg; ⟨t, e1, (upd_ne (fun y => by rw [y, e] at z; cases z)).trans z⟩⟩
theorem PairsAt.nil {H : Hp} : PairsAt H [] [] := ⟨rfl, fun i g h => by simp at h⟩
theorem PairsAt.snoc {H : Hp} {xs : List V} {ls : List (Int × Int)} {t : Addr} {g : Int × Int} (h : PairsAt H xs ls) (e : H t = some (.tup [.int g.1, .int g.2])) : PairsAt H (xs ++ [.ref t]) (ls ++ [g]) := ⟨by rw [List.length_append, List.length_append, h.1]; rfl, fun i g' hg => by
  by_cases hi : i < ls.length
  · rw [List.getElem?_append_left hi] at hg
    rw [List.getElem?_append_left (by rw [h.1]; exact hi)]
    exact h.2 i g' hg
  · have hl := (List.getElem?_eq_some_iff.mp hg).1
    rw [List.length_append, List.length_singleton] at hl
    obtain rfl : i = ls.length := by omega
    rw [List.getElem?_append_right (Nat.le_refl _), Nat.sub_self] at hg
    obtain rfl : g = g' := by simpa using hg
    exact ⟨t, by rw [← h.1, List.getElem?_append_right (Nat.le_refl _), Nat.sub_self]; rfl, e⟩⟩
theorem PairsAt.get {H : Hp} {xs : List V} {ls : List (Int × Int)} {i : Nat} {x : V} (h : PairsAt H xs ls) (hx : xs[i]? = some x) : ∃ (t : Addr) (g : Int × Int), x = .ref t ∧ ls[i]? = some g ∧ H t = some (.tup [.int g.1, .int g.2]) := by
  obtain ⟨l, hl⟩ : ∃ l, ls[i]? = some l := ⟨_, List.getElem?_eq_getElem (by have := (List.getElem?_eq_some_iff.mp hx).1; rw [h.1] at this; exact this)⟩
  obtain ⟨t, e, z⟩ := h.2 i l hl
  exact ⟨t, l, Option.some.inj (hx.symm.trans e), hl, z⟩
theorem getD_of {α : Type} {l : List α} {i : Nat} {x d : α} (h : l[i]? = some x) : l.getD i d = x := by
  rw [List.getD_eq_getElem?_getD, h]; rfl
def spHand : Sp := fun vs H Q _ => ∃ (p : Addr) (n fs fr : Int) (xs : List V) (ps : List (Int × Int)), vs = [.int n, .ref p, .int fs, .int fr] ∧ H p = some (.lst xs) ∧ PairsAt H xs ps ∧ ∀ v H', Same H H' → FltAt H' v (handF n fs fr ps) → Q v H'
def spAgain : Sp := fun vs H Q _ => ∃ (p r : Addr) (ks ts : List Int), vs = [.ref p, .ref r] ∧ H p = some (.lst (ks.map V.int)) ∧ H r = some (.lst (ts.map V.int)) ∧ ks.length ≤ 1000 ∧ ts.length ≤ 1000 ∧ ∀ v H', Same H H' → FltAt H' v (againF ks ts) → Q v H'
def spNobody : Sp := fun vs H Q _ => ∃ (p r : Addr) (ws ks : List Int), vs = [.ref p, .ref r] ∧ H p = some (.lst (ws.map V.int)) ∧ H r = some (.lst (ks.map V.int)) ∧ ks.length ≤ 4000 ∧ ∀ v H', Same H H' → FltAt H' v (nobodyF ws ks) → Q v H'

def spIsRow : Sp := fun vs H Q _ => ∃ (t : Addr) (zs : List Int) (s : Int), vs = [.ref t, .int ((zs.length : Int) + 1)] ∧ H t = some (.tup ((zs ++ [s]).map V.int)) ∧ Q (.bl (okStart s)) H
def spForm : Sp := fun vs H Q _ => ∃ (p : Addr) (most : Int) (k : Nat) (xs : List V) (ss : List Int), vs = [.ref p, .int most, .int ((k : Int) + 1)] ∧ SeqV H p xs ∧ RowsG H k xs ss ∧ (xs.length : Int) ≤ most ∧ ∀ v H', Same H H' → FltAt H' v (formS ss) → Q v H'
section
variable {P : Program} {w : World} {K : PySem.W.Frag} {mg : Str → Option Value} {base : Heap} {a : Adr}
theorem ok_is_row (T : Txt K mg base a) : FnOk P w K mg base CX0 2 a.a_is_row a.d_is_row ["thing", "parts"] spIsRow := by
  refine T.F_is_row.ok sc_is_row (fun vs H Q E h => ?_) (fun cdv A outer s H vs Q E hr h => ?_)
  · obtain ⟨t, zs, s, rfl, _⟩ := h
    rfl
  · obtain ⟨t, zs, s0, rfl, et, k⟩ := h
    refine ⟨_, (pss_cons (ps_if (PW.pt (pw_or (pt_not (pt_val (pe_callB call_isi (by rfl) T.n_isinstance (by decide +kernel) (pa_cons (pv 0) (pa_cons (pe_bltn (v := .ty "tuple") (u := .type "tuple") (by rfl) T.n_tuple (by decide +kernel) rfl) pa_nil))))) (pw_or1 (pt_cmpR op_ne (pe_callB call_len_seq (by rfl) T.n_len (by decide +kernel) (pa_cons (pv 0) pa_nil)) (pv 1) (nomark _))))) (pss_one (ps_ret pe_bl))
 pss_nil)
 (pss_cons (ps_for (by exact PassesOwn.never) rfl (pi_tup (pv 0)) (pg_name (i := 2) sc_is_row.nd rfl (Or.inl rfl))
 (pss_one (ps_if (pt_not (pt_val (pe_call (ok_is_integer T) (hr.mono (by decide)) (by rfl) T.g_is_integer T.F_is_integer.kp T.b_is_integer .nil pass0 (pa_cons (pv 2) pa_nil)))) (pss_one (ps_ret pe_bl))
 pss_nil)))
 (pss_one (ps_ret (pe_chain op_le op_le pe_int (pe_ix ix_tup (pv 0) (pe_un un_neg pe_int) (fun _ _ => rfl)) (pe_glob (v := .int 1000000000000000) (by rfl) T.g_LATEST_START.choose_spec ⟨_, rfl⟩)))))), ?_⟩
    repeat first | walk_at "rd" | walk_at "rdi"
    refine r_isiTu true et (by decide +kernel) ?_
    repeat first | walk_at "rd" | walk_at "rdi"
    refine r_nDT (show ((((zs ++ [s0]).map V.int).length : Nat) : Int) = (zs.length : Int) + 1 by rw [List.length_map, List.length_append, List.length_singleton]; omega) ?_
    repeat walk_at "rd"
    refine ⟨t, rfl, ⟨_, SqT.of et⟩, for_tup (K := K) (a := t) (xs := (zs ++ [s0]).map V.int) (fun i σ H' => ∃ v2 : Option V, σ = [some (.ref t), some (.int ((zs.length : Int) + 1)), v2] ∧ H' = H) ⟨_, rfl, rfl⟩ (fun i σ H' _ ⟨_, _, e⟩ => by rw [e]; exact SqT.of et) ?_ ?_⟩
    · rintro i x σ H1 hi ⟨v2, rfl, rfl⟩
      obtain ⟨z, _, rfl⟩ := int_of_get hi
      repeat first | walk_at "rd" | walk_at "rdi"
      refine ⟨_, true, rfl, IntV.int, ?_⟩
      repeat first | exact ⟨_, rfl, rfl⟩ | walk_at "rd" | walk_at "rdi"
    · rintro σ H1 ⟨v2, rfl, rfl⟩
      repeat walk_at "rd"
      refine r_ixT et (at_end zs s0) ?_
      repeat walk_at "rd"
      refine ite_d (fun hc => ?_) (fun hc => ?_)
      · repeat walk_at "rd"
        rw [show okStart s0 = decide (s0 ≤ 1000000000000000) from decide_eq_decide.mpr ⟨fun h => h.2, fun h => ⟨hc, h⟩⟩] at k
        exact k
      · rw [show okStart s0 = false from decide_eq_false fun h => hc h.1] at k
        exact k
theorem ok_form_fault (T : Txt K mg base a) : FnOk P w K mg base CX0 3 a.a_form_fault a.d_form_fault ["thing", "most", "parts"] spForm := by
  refine T.F_form_fault.ok sc_form_fault (fun vs H Q E h => ?_) (fun cdv A outer s H vs Q E hr h => ?_)
  · obtain ⟨p, most, k, xs, ss, rfl, _⟩ := h
    rfl
  · obtain ⟨p, most, n, xs, ss, rfl, ep, hA, hm, k⟩ := h
    refine ⟨_, (pss_cons (ps_if (PW.pt (pw_or (pt_not (pt_val (pe_callB call_isiT (by rfl) T.n_isinstance (by decide +kernel) (pa_cons (pv 0) (pa_cons (pe_tup (pa_cons (pe_bltn (v := .ty "list") (u := .type "list") (by rfl) T.n_list (by decide +kernel) rfl) (pa_cons (pe_bltn (v := .ty "tuple") (u := .type "tuple") (by rfl) T.n_tuple (by decide +kernel) rfl) pa_nil))) pa_nil))))) (pw_or1 (pt_cmpR op_gt (pe_callB call_len_seq (by rfl) T.n_len (by decide +kernel) (pa_cons (pv 0) pa_nil)) (pv 1) (nomark _))))) (pss_one (ps_ret (pe_tup (pa_cons pe_str (pa_cons (pe_un un_neg pe_int) pa_nil)))))
 pss_nil)
 (pss_cons (ps_for (by exact PassesOwn.never) rfl (pi_enumS (by rfl) T.n_enumerate (pa_cons (pv 0) pa_nil)) (pg_tup (by rfl) (pgs_cons (pg_name (i := 3) sc_form_fault.nd rfl (Or.inl rfl)) (pgs_cons (pg_name (i := 4) sc_form_fault.nd rfl (Or.inl rfl)) pgs_nil)))
 (pss_one (ps_if (pt_not (pt_val (pe_call (ok_is_row T) (hr.mono (by decide)) (by rfl) T.g_is_row T.F_is_row.kp T.b_is_row .nil pass0 (pa_cons (pv 4) (pa_cons (pv 2) pa_nil))))) (pss_one (ps_ret (pe_tup (pa_cons pe_str (pa_cons (pv 3) pa_nil)))))
 pss_nil)))
 (pss_one (ps_ret pe_non)))), ?_⟩
    walk_at "rdi"
    repeat walk_at "rd"
    refine new_at (Nat.le_of_ble_eq_true rfl) (fun u H1 nu s1 e1 => ?_)
    have ep := ep.keep s1
    have hA := hA.keep s1
    obtain ⟨ty, tyx, hk⟩ := isiLT (K := K) ep
    repeat walk_at "rd"
    refine ⟨_, u, [.ty "list", .ty "tuple"], ty, [.type "list", .type "tuple"], true, rfl, e1, .cons (.ty _) (.cons (.ty _) .nil), tyx, hk, ?_⟩
    repeat walk_at "rd"
    refine r_lenS ep.sq ?_
    repeat walk_at "rd"
    refine ite_ff (by omega) ?_
    repeat first | walk_at "rd" | walk_at "rdi"
    refine r_enS2 (xs := xs) (by intro QA q; (repeat walk_at "rd"); exact q) ep (fun i σ H' => ∃ v3 v4 : Option V, σ = [some (.ref p), some (.int most), some (.int ((n : Int) + 1)), v3, v4] ∧ Same H1 H' ∧ ∀ j, j < i → okStart (ss.getD j 0) = true) ⟨_, _, rfl, Same.refl _, fun j hj => absurd hj (by omega)⟩ (fun i σ H' ⟨_, _, _, s, _⟩ => s.seqK) ?_ ?_
    · rintro i x σ H2 u2 H3 hx ⟨v3, v4, rfl, s2, hb⟩ nu2 rfl
      have s3 : Same H1 (upd H2 u2 (.tup [.int (i : Nat), x])) := s2.trans (Same.new nu2)
      obtain ⟨t, zs, s0, rfl, hs0, et, hn⟩ := (hA.keep s3).get hx
      repeat first | walk_at "rd" | walk_at "rdi"
      refine ⟨t, zs, s0, by rw [hn]; rfl, et, ?_⟩
      cases hok : okStart s0 with
      | true =>
        repeat first | exact ⟨_, _, rfl, s3, fun j hj => by
          by_cases c : j = i
          · subst c; rw [getD_of hs0]; exact hok
          · exact hb j (by omega)⟩ | walk_at "rd" | walk_at "rdi"
      | false =>
        repeat first | walk_at "rd" | walk_at "rdi"
        refine new_at (Nat.le_of_ble_eq_true rfl) (fun z H4 nz s4 ez => ?_)
        refine k _ _ ((s1.trans s3).trans s4) ?_
        have hi : i < ss.length := (List.getElem?_eq_some_iff.mp hs0).1
        unfold formS
        rw [first_some (i := i) hi (by rw [getD_of hs0, hok]; rfl) (fun j hj => by rw [hb j hj]; rfl)]
        exact ⟨z, rfl, ez⟩
    · rintro σ H2 ⟨v3, v4, rfl, s2, hb⟩
      repeat walk_at "rd"
      refine k _ _ (s1.trans s2) ?_
      rw [hA.1] at hb
      unfold formS
      rw [first_none (fun j hj => by rw [hb j hj]; rfl)]
      rfl
end

section
variable {P : Program} {w : World} {K : PySem.W.Frag} {mg : Str → Option Value} {base : Heap} {a : Adr}
theorem ok_hand_fault (T : Txt K mg base a) : FnOk P w K mg base CX0 1 a.a_hand_fault a.d_hand_fault ["n", "pairs", "first_sender", "first_receiver"] spHand := by
  refine T.F_hand_fault.ok sc_hand_fault (fun vs H Q E h => ?_) (fun cdv A outer s H vs Q E hr h => ?_)
  · obtain ⟨p, n, fs, fr, xs, ps, rfl, _⟩ := h
    rfl
  · obtain ⟨p, n, fs, fr, xs, ps, rfl, ep, hA, k⟩ := h
    refine ⟨_, (pss_cons (ps_for (by exact PassesOwn.never) rfl (pi_enumS (by rfl) T.n_enumerate (pa_cons (pv 1) pa_nil)) (pg_tup (by rfl) (pgs_cons (pg_name (i := 4) sc_hand_fault.nd rfl (Or.inl rfl)) (pgs_cons (pg_tup (by rfl) (pgs_cons (pg_name (i := 5) sc_hand_fault.nd rfl (Or.inl rfl)) (pgs_cons (pg_name (i := 6) sc_hand_fault.nd rfl (Or.inl rfl)) pgs_nil))) pgs_nil)))
 (pss_one (ps_if (PW.pt (pw_or (pt_not (pt_chain op_le op_lt (pv 2) (pv 5) (pv 0))) (pw_or (pt_not (pt_chain op_le op_lt (pv 3) (pv 6) (pv 0))) (pw_or1 (pt_cmpR op_eq (pv 5) (pv 6) (nomark _)))))) (pss_one (ps_ret (pe_tup (pa_cons pe_str (pa_cons (pv 4) pa_nil)))))
 pss_nil)))
 (pss_one (ps_ret pe_non))), ?_⟩
    repeat walk_at "rd"
    refine r_enS2 (xs := xs) (by intro QA q; (repeat walk_at "rd"); exact q) (.inl ep) (fun i σ H' => ∃ v4 v5 v6 : Option V, σ = [some (.int n), some (.ref p), some (.int fs), some (.int fr), v4, v5, v6] ∧ Same H H' ∧ ∀ j, j < i → badHand n fs fr (ps.getD j (0, 0)) = false) ⟨_, _, _, rfl, Same.refl _, fun j hj => absurd hj (by omega)⟩ (fun i σ H' ⟨_, _, _, _, s, _⟩ => s.seqK) ?_ ?_
    · rintro i x σ H2 u2 H3 hx ⟨v4, v5, v6, rfl, s2, hb⟩ nu2 rfl
      have s3 : Same H (upd H2 u2 (.tup [.int (i : Nat), x])) := s2.trans (Same.new nu2)
      obtain ⟨t, g, rfl, hg, et⟩ := (hA.keep s3).get hx
      have hi : i < ps.length := (List.getElem?_eq_some_iff.mp hg).1
      have fin : ∀ D : Ends, D.rt = Q → badHand n fs fr g = true → tRet (tTup (tCons (tC (.str "hand")) (tCons (tVar 4) tNil))) D [some (.int n), some (.ref p), some (.int fs), some (.int fr), some (.int (i : Nat)), some (.int g.1), some (.int g.2)] (upd H2 u2 (.tup [.int (i : Nat), .ref t])) := fun D hD hbad => by
        repeat walk_at "rd"
        refine new_at (Nat.le_of_ble_eq_true rfl) (fun z H4 nz s4 ez => ?_)
        rw [hD]
        refine k _ _ (s3.trans s4) ?_
        unfold handF
        rw [first_some (i := i) hi (by rw [getD_of hg]; exact hbad) hb]
        exact ⟨z, rfl, ez⟩
      have go : badHand n fs fr g = false → ∃ v4' v5' v6' : Option V, [some (.int n), some (.ref p), some (.int fs), some (.int fr), some (.int (i : Nat)), some (.int g.1), some (.int g.2)] = [some (.int n), some (.ref p), some (.int fs), some (.int fr), v4', v5', v6'] ∧ Same H (upd H2 u2 (.tup [.int (i : Nat), .ref t])) ∧ ∀ j, j < i + 1 → badHand n fs fr (ps.getD j (0, 0)) = false := fun h => ⟨_, _, _, rfl, s3, fun j hj => by
        by_cases c : j = i
        · subst c; rw [getD_of hg]; exact h
        · exact hb j (by omega)⟩
      have bad : ¬ ((fs ≤ g.1 ∧ g.1 < n) ∧ (fr ≤ g.2 ∧ g.2 < n) ∧ g.1 ≠ g.2) → badHand n fs fr g = true := fun h => by unfold badHand; rw [decide_eq_false h]; rfl
      repeat first | walk_at "rd" | walk_at "rdi"
      refine ite_d (fun c1 => ?_) (fun c1 => ?_)
      · repeat first | walk_at "rd" | walk_at "rdi"
        refine r_nD (fun c2 => ?_) (fun c2 => ?_)
        · exact fin _ rfl (bad (by omega))
        · repeat first | walk_at "rd" | walk_at "rdi"
          refine ite_d (fun c3 => ?_) (fun c3 => ?_)
          · repeat first | walk_at "rd" | walk_at "rdi"
            refine r_nD (fun c4 => ?_) (fun c4 => ?_)
            · exact fin _ rfl (bad (by omega))
            · repeat first | walk_at "rd" | walk_at "rdi"
              refine ite_d (fun c5 => ?_) (fun c5 => ?_)
              · exact fin _ rfl (bad (by omega))
              · have := go (by unfold badHand; rw [decide_eq_true ⟨⟨c1, c2⟩, ⟨c3, c4⟩, c5⟩]; rfl)
                repeat first | exact this | walk_at "rd"
          · repeat first | exact fin _ rfl (bad (by omega)) | walk_at "rd"
      · repeat first | exact fin _ rfl (bad (by omega)) | walk_at "rd"
    · rintro σ H2 ⟨v4, v5, v6, rfl, s2, hb⟩
      repeat walk_at "rd"
      refine k _ _ s2 ?_
      rw [hA.1] at hb
      unfold handF
      rw [first_none hb]
      rfl
theorem ok_again_fault (T : Txt K mg base a) : FnOk P w K mg base CX0 1 a.a_again_fault a.d_again_fault ["keys", "taken"] spAgain := by
  refine T.F_again_fault.ok sc_again_fault (fun vs H Q E h => ?_) (fun cdv A outer s H vs Q E hr h => ?_)
  · obtain ⟨p, r, ks, ts, rfl, _⟩ := h
    rfl
  · obtain ⟨p, r, ks, ts, rfl, ep, er, hk9, ht9, k⟩ := h
    refine ⟨_, (pss_cons (ps_set (i := 2) sc_again_fault.nd rfl (Or.inl rfl) (pe_callTy (cr_setI rfl) (by rfl) T.n_set (by decide +kernel) (pa_cons (pv 1) pa_nil)))
 (pss_cons (ps_for (by exact PassesOwn.never) rfl (pi_enumS (by rfl) T.n_enumerate (pa_cons (pv 0) pa_nil)) (pg_tup (by rfl) (pgs_cons (pg_name (i := 3) sc_again_fault.nd rfl (Or.inl rfl)) (pgs_cons (pg_name (i := 4) sc_again_fault.nd rfl (Or.inl rfl)) pgs_nil)))
 (pss_cons (ps_if (pt_cmpR or_inI (pv 4) (pv 2) (by rfl)) (pss_one (ps_ret (pe_tup (pa_cons pe_str (pa_cons (pv 3) pa_nil)))))
 pss_nil)
 (pss_one (ps_expr (pe_addI (pv 2) (pa_cons (pv 4) pa_nil))))))
 (pss_one (ps_ret pe_non)))), ?_⟩
    repeat walk_at "rd"
    refine ⟨r, ts, rfl, SqL.of er, by omega, fun c n nc hn => ?_⟩
    repeat walk_at "rd"
    have npc : p ≠ c := ne_of_none ep nc
    refine r_enS2 (xs := ks.map V.int) (by intro QA q; (repeat walk_at "rd"); exact q) (.inl ((upd_ne npc).trans ep)) (fun i σ H' => ∃ (v3 v4 : Option V) (S : Int → Bool) (m : Nat), σ = [some (.ref p), some (.ref r), some (.ref c), v3, v4] ∧ H' c = some (SetI P w c S m) ∧ (∀ j, S j = decide (j ∈ ts ++ ks.take i)) ∧ m ≤ ts.length + i ∧ Same H H' ∧ ∀ j, j < i → decide (ks.getD j 0 ∈ ts ++ ks.take j) = false) ⟨_, _, _, n, rfl, upd_same, fun j => by rw [List.take_zero, List.append_nil], hn, Same.new nc, fun j hj => absurd hj (by omega)⟩ (fun i σ H' ⟨_, _, _, _, _, _, _, _, s, _⟩ => ⟨fun ho => s _ _ ((upd_ne npc).symm.trans ho), fun ho => s _ _ ((upd_ne npc).symm.trans ho)⟩) ?_ ?_
    · rintro i x σ H2 u2 H3 hx ⟨v3, v4, S, m, rfl, ec, hS, hm, s2, hb⟩ nu2 rfl
      have s3 : Same H (upd H2 u2 (.tup [.int (i : Nat), x])) := s2.trans (Same.new nu2)
      have ec : upd H2 u2 (.tup [.int (i : Nat), x]) c = some (SetI P w c S m) := (upd_ne (ne_of_none ec nu2)).trans ec
      obtain ⟨z, hz, rfl⟩ := int_of_get hx
      have hi : i < ks.length := (List.getElem?_eq_some_iff.mp hz).1
      have eu2 : upd H2 u2 (.tup [.int (i : Nat), .int z]) u2 = some (.tup [.int (i : Nat), .int z]) := upd_same
      generalize upd H2 u2 (.tup [.int (i : Nat), .int z]) = H3 at s3 ec eu2 ⊢
      repeat first | walk_at "rd" | walk_at "rdi"
      refine r_inI ec ?_
      rw [hS z]
      repeat first | walk_at "rd" | walk_at "rdi"
      refine ite_d (fun hc => ?_) (fun hc => ?_)
      · repeat walk_at "rd"
        refine new_at (Nat.le_of_ble_eq_true rfl) (fun z' H4 nz s4 ez => ?_)
        refine k _ _ (s3.trans s4) ?_
        unfold againF
        rw [first_some (i := i) hi (by rw [getD_of hz]; exact decide_eq_true hc) hb]
        exact ⟨z', rfl, ez⟩
      · repeat walk_at "rd"
        refine r_addI ?_
        repeat walk_at "rd"
        refine ⟨⟨c, _, _, rfl, ec⟩, ?_⟩
        repeat walk_at "rd"
        refine ⟨c, z, S, m, rfl, rfl, ec, by omega, fun m' hm' => ?_⟩
        refine ⟨_, _, _, m', rfl, upd_same, fun j => ?_, by omega, s3.overSet nc ec, fun j hj => ?_⟩
        · show (S j || decide (j = z)) = _
          rw [hS j, take_more hz, ← List.append_assoc, Bool.eq_iff_iff, Bool.or_eq_true, decide_eq_true_eq, decide_eq_true_eq, decide_eq_true_eq, List.mem_append (t := [z]), List.mem_singleton]
        · by_cases e : j = i
          · subst e
            rw [getD_of hz]
            exact decide_eq_false hc
          · exact hb j (by omega)
    · rintro σ H2 ⟨v3, v4, S, m, rfl, ec, hS, hm, s2, hb⟩
      rw [List.length_map] at hb
      repeat walk_at "rd"
      refine k _ _ s2 ?_
      unfold againF
      rw [first_none hb]
      rfl
theorem find_none_take {ws : List Int} {f : Int → Bool} (h : ∀ j, j < ws.length → f (ws.getD j 0) = false) : ws.find? f = none := by
  rw [List.find?_eq_none]
  intro x hx
  obtain ⟨i, hi⟩ := List.mem_iff_getElem?.mp hx
  have := h i (List.getElem?_eq_some_iff.mp hi).1
  rw [getD_of hi] at this
  rw [this]
  exact Bool.false_ne_true
theorem find_some_at {ws : List Int} {f : Int → Bool} {i : Nat} {z : Int} (hz : ws[i]? = some z) (hf : f z = true) (h : ∀ j, j < i → f (ws.getD j 0) = false) : ws.find? f = some z := by
  have hi := (List.getElem?_eq_some_iff.mp hz).1
  have e : ws = ws.take i ++ z :: ws.drop (i + 1) := by
    conv => lhs; rw [← List.take_append_drop i ws]
    rw [List.drop_eq_getElem_cons hi, (List.getElem?_eq_some_iff.mp hz).2]
  rw [e, List.find?_append]
  have hn : (ws.take i).find? f = none := find_none_take fun j hj => by
    rw [List.length_take] at hj
    have := h j (by omega)
    rw [List.getD_eq_getElem?_getD, List.getElem?_take, if_pos (by omega), ← List.getD_eq_getElem?_getD]
    exact this
  rw [hn, List.find?_cons, hf]
  rfl
theorem ok_nobody_fault (T : Txt K mg base a) : FnOk P w K mg base CX0 1 a.a_nobody_fault a.d_nobody_fault ["wanted", "keys"] spNobody := by
  refine T.F_nobody_fault.ok sc_nobody_fault (fun vs H Q E h => ?_) (fun cdv A outer s H vs Q E hr h => ?_)
  · obtain ⟨p, r, ws, ks, rfl, _⟩ := h
    rfl
  · obtain ⟨p, r, ws, ks, rfl, ep, er, hk9, k⟩ := h
    refine ⟨_, (pss_cons (ps_set (i := 2) sc_nobody_fault.nd rfl (Or.inl rfl) (pe_callTy (cr_setI rfl) (by rfl) T.n_set (by decide +kernel) (pa_cons (pv 1) pa_nil)))
 (pss_cons (ps_for (by exact PassesOwn.never) rfl (pi_list (pv 0)) (pg_name (i := 3) sc_nobody_fault.nd rfl (Or.inl rfl))
 (pss_one (ps_if (pt_cmpR or_ninI (pv 3) (pv 2) (by rfl)) (pss_one (ps_ret (pe_tup (pa_cons pe_str (pa_cons (pv 3) pa_nil)))))
 pss_nil)))
 (pss_one (ps_ret pe_non)))), ?_⟩
    repeat walk_at "rd"
    refine ⟨r, ks, rfl, SqL.of er, hk9, fun c n nc hn => ?_⟩
    have npc : p ≠ c := ne_of_none ep nc
    have s1 : Same H (upd H c (SetI P w c (fun k => decide (k ∈ ks)) n)) := Same.new nc
    have ec : upd H c (SetI P w c (fun k => decide (k ∈ ks)) n) c = some (SetI P w c (fun k => decide (k ∈ ks)) n) := upd_same
    have k : ∀ v H', Same (upd H c (SetI P w c (fun k => decide (k ∈ ks)) n)) H' → FltAt H' v (nobodyF ws ks) → Q v H' := fun v H' h1 h2 => k v H' (s1.trans h1) h2
    have ep := s1 _ _ ep
    have goal_ : ∀ H1 : Hp, H1 = upd H c (SetI P w c (fun k => decide (k ∈ ks)) n) → True := fun _ _ => trivial
    clear goal_
    generalize hH1 : upd H c (SetI P w c (fun k => decide (k ∈ ks)) n) = H1 at ec k ep
    have hH1' : upd H c (SetI (cxOf CX0 P w K mg base ["wanted", "keys", "found", "key"] "nobody_fault" (defScope s_nobody_fault) a.a_nobody_fault cdv A outer s H E).nox.prog (cxOf CX0 P w K mg base ["wanted", "keys", "found", "key"] "nobody_fault" (defScope s_nobody_fault) a.a_nobody_fault cdv A outer s H E).nox.w c (fun k => decide (k ∈ ks)) n) = H1 := hH1
    rw [hH1']
    clear hH1 hH1' s1
    repeat walk_at "rd"
    refine ⟨p, rfl, ⟨_, SqL.of ep⟩, for_list (K := K) (a := p) (xs := ws.map V.int) (fun i σ H' => ∃ v3 : Option V, σ = [some (.ref p), some (.ref r), some (.ref c), v3] ∧ H' = H1 ∧ ∀ j, j < i → (!decide (ws.getD j 0 ∈ ks)) = false) ⟨_, rfl, rfl, fun j hj => absurd hj (by omega)⟩ (fun i σ H' _ ⟨_, _, e, _⟩ => by rw [e]; exact SqL.of ep) ?_ ?_⟩
    · rintro i x σ H2 hx ⟨v3, rfl, rfl, hb⟩
      obtain ⟨z, hz, rfl⟩ := int_of_get hx
      repeat first | walk_at "rd" | walk_at "rdi"
      refine r_ninI ec ?_
      repeat first | walk_at "rd" | walk_at "rdi"
      refine r_nD (fun hc => ?_) (fun hc => ?_)
      · repeat walk_at "rd"
        refine new_at (Nat.le_of_ble_eq_true rfl) (fun z' H4 nz s4 ez => ?_)
        refine k _ _ s4 ?_
        unfold nobodyF
        rw [find_some_at hz (by rw [decide_eq_false hc]; rfl) hb]
        exact ⟨z', rfl, ez⟩
      · repeat first | exact ⟨_, rfl, rfl, fun j hj => by
          by_cases e : j = i
          · subst e; rw [getD_of hz, decide_eq_true hc]; rfl
          · exact hb j (by omega)⟩ | walk_at "rd"
    · rintro σ H2 ⟨v3, rfl, rfl, hb⟩
      rw [List.length_map] at hb
      repeat walk_at "rd"
      refine k _ _ (Same.refl _) ?_
      unfold nobodyF
      rw [find_none_take hb]
      rfl
end

/-! ### the program's faults, read: early, near -/
theorem sl_tupK {X : Cx} {K : PySem.W.Frag} (hK : X.K = K) : SlR X (rSlT K) := by subst hK; exact sl_tup
theorem r_dc {wi : TI} {g : TG} {tt : TT} {tk tv : TE} {vs : List Nat} {σ : St} {H : Hp} {Q : VK} (h : wi σ H fun J H1 => ∀ D, H1 D = none → ∃ W : Nat → Nat → Hp → Prop, (∃ m, W 0 m (upd H1 D (.dK []))) ∧ ∀ i m H, W i m H →
  (J.stop i H ∧ Q (.ref D) H) ∨ (J.go i H ∧ ∃ Nx : Hp → Prop, (∀ H', Nx H' → ∃ m', m' < m ∧ W (i + 1) m' H') ∧ ∀ x H', J.yld i H x H' → g x (wipe σ vs) H' fun σ2 H2 => wipe σ2 vs = wipe σ vs ∧ tt σ2 H2 fun b H3 =>
    if b = true then tk σ2 H3 fun y H4 => tv σ2 H4 fun z H5 => ∃ kvs k, y = kV k ∧ H5 D = some (.dK kvs) ∧ kvs.length < sizeLine ∧ Nx (upd H5 D (.dK (putK kvs k z))) else Nx H3)) : tDc wi g tt tk tv vs σ H Q := h
theorem dc_list {K : PySem.W.Frag} {a : Addr} {xs : List V} {g : TG} {tt : TT} {tk tv : TE} {vs : List Nat} {σ : St} {H1 : Hp} {D : Addr} {Qd : Hp → Prop} (Pv : Nat → Hp → Prop) (h0 : Pv 0 (upd H1 D (.dK []))) (hl : ∀ i H, Pv i H → SqL K H a xs)
    (hs : ∀ i x H, xs[i]? = some x → Pv i H → g x (wipe σ vs) H fun σ2 H2 => wipe σ2 vs = wipe σ vs ∧ tt σ2 H2 fun b H3 => if b = true then tk σ2 H3 fun y H4 => tv σ2 H4 fun z H5 => ∃ kvs k, y = kV k ∧ H5 D = some (.dK kvs) ∧ kvs.length < sizeLine ∧ Pv (i + 1) (upd H5 D (.dK (putK kvs k z))) else Pv (i + 1) H3)
    (hd : ∀ H, Pv xs.length H → Qd H) :
    ∃ W : Nat → Nat → Hp → Prop, (∃ m, W 0 m (upd H1 D (.dK []))) ∧ ∀ i m H, W i m H → ((Itl K a).stop i H ∧ Qd H) ∨ ((Itl K a).go i H ∧ ∃ Nx : Hp → Prop, (∀ H', Nx H' → ∃ m', m' < m ∧ W (i + 1) m' H') ∧ ∀ x H', (Itl K a).yld i H x H' → g x (wipe σ vs) H' fun σ2 H2 => wipe σ2 vs = wipe σ vs ∧ tt σ2 H2 fun b H3 =>
        if b = true then tk σ2 H3 fun y H4 => tv σ2 H4 fun z H5 => ∃ kvs k, y = kV k ∧ H5 D = some (.dK kvs) ∧ kvs.length < sizeLine ∧ Nx (upd H5 D (.dK (putK kvs k z))) else Nx H3) := by
  refine ⟨fun i m H => m + i = xs.length ∧ Pv i H, ⟨xs.length, rfl, h0⟩, fun i m H ⟨hm, p⟩ => ?_⟩
  have q := hl i H p
  cases m with
  | zero =>
    obtain rfl : i = xs.length := by omega
    exact .inl ⟨⟨xs, q, Nat.le_refl _⟩, hd H p⟩
  | succ m =>
    have hlt : i < xs.length := by omega
    refine .inr ⟨⟨xs, xs[i], q, List.getElem?_eq_getElem hlt⟩, Pv (i + 1), fun H' p' => ⟨m, by omega, by omega, p'⟩, fun x H' ⟨e, y⟩ => ?_⟩
    subst e
    exact hs i x _ (y xs q) p
theorem r_dget {td ty : TE} {σ : St} {H : Hp} {Q : VK} (h : td σ H fun x H1 => ty σ H1 fun y H2 => ∃ a v, x = .ref a ∧ DGet H2 a y (some v) ∧ Q v H2) : tDGet td ty σ H Q := h
theorem r_dget1 {td ty : TE} {σ : St} {H : Hp} {Q : VK} (h : td σ H fun x H1 => ∃ a, x = .ref a ∧ IsD H1 a ∧ ty σ H1 fun y H2 => ∃ o, DGet H2 a y o ∧ Q (o.getD .non) H2) : tDGet1 td ty σ H Q := h
theorem r_getK {H : Hp} {R : V → Prop} {a : Addr} {kvs : List (L2.Key × V)} {i : Int} {v : V} (e : H a = some (.dK kvs)) (h : valV kvs (.inl i) = some v) (q : R v) : ∃ b v, V.ref a = .ref b ∧ DGet H b (.int i) (some v) ∧ R v := ⟨a, v, rfl, h ▸ DGet.k (k := .inl i) e, q⟩
theorem r_setK {H : Hp} {R : Hp → Prop} {a : Addr} {kvs : List (L2.Key × V)} {i : Int} {v : V} (e : H a = some (.dK kvs)) (hl : kvs.length ≤ 9000) (q : R (upd H a (.dK (putK kvs (.inl i) v)))) : rSetD (.ref a) (.int i) v H R := ⟨a, _, rfl, DPut.k (k := .inl i) e (by rw [sizeLine_eq]; omega), q⟩
theorem valV_putK {kvs : List (L2.Key × V)} {k j : L2.Key} {v : V} : valV (putK kvs k v) j = if j = k then some v else valV kvs j := by
  unfold putK
  split
  · rename_i h
    rw [valV_map]
    rw [valV_any] at h
    by_cases c : j = k
    · rw [if_pos c]
      subst c
      obtain ⟨x, hx⟩ := Option.isSome_iff_exists.mp h
      rw [hx]
      simp
    · rw [if_neg c]
      cases valV kvs j <;> simp [c]
  · rename_i h
    rw [valV_any] at h
    exact valV_snoc k j v kvs (by simpa using h)
theorem len_putK {κ : Type} [DecidableEq κ] {kvs : List (κ × V)} {k : κ} {v : V} : (putK kvs k v).length ≤ kvs.length + 1 := by
  unfold putK
  split
  · rw [List.length_map]; omega
  · rw [List.length_append, List.length_singleton]; exact Nat.le_refl _
/-- when the senders of rows know -/
theorem known_take {rs : List L3} {roots : List Int} {D s : Int} {i : Nat} {l : L3} (hl : rs[i]? = some l) : knownOf (rs.take (i + 1)) roots D s = if s ∈ roots then 0 else if (∃ x, x ∈ rs.take i ∧ x.2.1 = s) then knownOf (rs.take i) roots D s else if l.2.1 = s then l.2.2 + D else 0 := by
  unfold knownOf
  by_cases c : s ∈ roots
  · rw [if_pos c, if_pos c]
  · rw [if_neg c, if_neg c, if_neg c, take_more hl, List.find?_append]
    by_cases h : ∃ x, x ∈ rs.take i ∧ x.2.1 = s
    · rw [if_pos h]
      obtain ⟨x, hx, he⟩ := h
      have : ((rs.take i).find? fun l => decide (l.2.1 = s)).isSome = true := by
        rw [List.find?_isSome]
        exact ⟨x, hx, decide_eq_true he⟩
      obtain ⟨y, hy⟩ := Option.isSome_iff_exists.mp this
      rw [hy]
      rfl
    · rw [if_neg h]
      have : (rs.take i).find? (fun l => decide (l.2.1 = s)) = none := by
        rw [List.find?_eq_none]
        intro x hx he
        exact h ⟨x, hx, of_decide_eq_true he⟩
      rw [this, Option.none_or, List.find?_cons]
      by_cases e : l.2.1 = s
      · rw [decide_eq_true e, if_pos e]; rfl
      · rw [decide_eq_false e, if_neg e]; rfl
theorem r_tup2 {K : PySem.W.Frag} {t : TGs} {n : Nat} {vs : List V} {p : Addr} {σ : St} {H : Hp} {R : St → Hp → Prop} (h : H p = some (.tup vs)) (hl : vs.length = n) (q : t vs σ H R) : gTup K n t (.ref p) σ H R := ⟨p, vs, rfl, SqT.of h, hl, q⟩
def spEarly : Sp := fun vs H Q _ => ∃ (p r : Addr) (D : Int) (xs : List V) (rs : List L3) (roots : List Int), vs = [.ref p, .ref r, .int D] ∧ SeqV H p xs ∧ TrisAt H xs rs ∧ H r = some (.lst (roots.map V.int)) ∧ roots.length ≤ 1000 ∧ rs.length ≤ 1000 ∧ (rs.map (·.2.1)).Nodup ∧ (∀ l, l ∈ rs → l.2.1 ∉ roots) ∧ (∀ l, l ∈ rs → l.1 ∈ roots ∨ ∃ m, m ∈ rs ∧ m.2.1 = l.1) ∧ ∀ v H', Same H H' → FltAt H' v (earlyF rs roots D) → Q v H'
def spIsNear : Sp := fun vs H Q _ => ∃ (d : Addr) (h t w_ : Int) (kvs : List (List L2.Key × V)) (prev : List (Int × Int)), vs = [.ref d, .int h, .int t, .int w_] ∧ H d = some (.dT kvs) ∧ Marks w_ kvs prev ∧ 0 < w_ ∧ w_ < 2 ^ 64 ∧ ∀ H', Same H H' → Q (.bl (nearP w_ prev (h, t))) H'
def MarksAt (H : Hp) (xs : List V) (ms : List (List (Int × Int))) : Prop := xs.length = ms.length ∧ ∀ (i : Nat) (m : List (Int × Int)), ms[i]? = some m → ∃ (t : Addr) (ys : List V), xs[i]? = some (.ref t) ∧ H t = some (.lst ys) ∧ PairsAt H ys m
theorem MarksAt.keep {H H' : Hp} {xs : List V} {ls : List (List (Int × Int))} (h : MarksAt H xs ls) (s : Same H H') : MarksAt H' xs ls := ⟨h.1, fun i g hg => let ⟨t, ys, e, z, q⟩ := h.2 i g hg; ⟨t, ys, e, s _ _ z, q.keep s⟩⟩
theorem MarksAt.get {H : Hp} {xs : List V} {ls : List (List (Int × Int))} {i : Nat} {x : V} (h : MarksAt H xs ls) (hx : xs[i]? = some x) : ∃ (t : Addr) (ys : List V) (m : List (Int × Int)), x = .ref t ∧ ls[i]? = some m ∧ H t = some (.lst ys) ∧ PairsAt H ys m := by
  obtain ⟨l, hl⟩ : ∃ l, ls[i]? = some l := ⟨_, List.getElem?_eq_getElem (by have := (List.getElem?_eq_some_iff.mp hx).1; rw [h.1] at this; exact this)⟩
  obtain ⟨t, ys, e, z, q⟩ := h.2 i l hl
  exact ⟨t, ys, l, Option.some.inj (hx.symm.trans e), hl, z, q⟩
def spNear : Sp := fun vs H Q _ => ∃ (why : Str) (p : Addr) (w_ : Int) (xs : List V) (ms : List (List (Int × Int))), vs = [.str why, .ref p, .int w_] ∧ H p = some (.lst xs) ∧ MarksAt H xs ms ∧ ms.length ≤ 1000 ∧ (∀ m, m ∈ ms → m.length ≤ 4) ∧ 0 ≤ w_ ∧ w_ < 2 ^ 64 ∧ ∀ v H', Same H H' → FltAt H' v (nearF why ms w_) → Q v H'
section
variable {P : Program} {w : World} {K : PySem.W.Frag} {mg : Str → Option Value} {base : Heap} {a : Adr}
theorem ok_early_fault (T : Txt K mg base a) : FnOk P w K mg base CX0 1 a.a_early_fault a.d_early_fault ["told", "roots", "letter"] spEarly := by
  refine T.F_early_fault.ok sc_early_fault (fun vs H Q E h => ?_) (fun cdv A outer s H vs Q E hr h => ?_)
  · obtain ⟨p, r, D, xs, rs, roots, rfl, _⟩ := h
    rfl
  · obtain ⟨p, r, D, xs, rs, roots, rfl, ep, hA, er, hro9, hrs9, hnd, hnr, hsend, k⟩ := h
    refine ⟨_, (pss_cons (ps_setDc (i := 3) (own := [("root", 9)]) (g := gName 9) (tt := tYes) rfl sc_early_fault.nd rfl rfl (sw_trueD rfl rfl rfl (by decide +kernel)) (pi_list (pv 1)) (blkOk_by (own := [("root", 9)]) (N := ["told", "roots", "letter", "known", "_", "receiver", "start", "at", "sender", "root"]) (sc := defScope s_early_fault) (by decide +kernel)) (fun _ _ _ _ _ => (pg_name (i := 9) sc_early_fault.nd rfl (Or.inl rfl))) (fun _ _ _ _ _ => pts_nil) (fun _ _ _ _ _ => (pv 9)) (fun _ _ _ _ _ => pe_int))
 (pss_cons (ps_for (by exact PassesOwn.never) rfl (pi_seq (pv 0)) (pg_tup (by rfl) (pgs_cons (pg_name (i := 4) sc_early_fault.nd rfl (Or.inl rfl)) (pgs_cons (pg_name (i := 5) sc_early_fault.nd rfl (Or.inl rfl)) (pgs_cons (pg_name (i := 6) sc_early_fault.nd rfl (Or.inl rfl)) pgs_nil))))
 (pss_one (ps_asg (pe_op op_add (pv 6) (pv 2)) (pg_sub (pv 3) (pv 5) (set_dict (u1 hr.units))))))
 (pss_cons (ps_for (by exact PassesOwn.never) rfl (pi_enumS (by rfl) T.n_enumerate (pa_cons (pv 0) pa_nil)) (pg_tup (by rfl) (pgs_cons (pg_name (i := 7) sc_early_fault.nd rfl (Or.inl rfl)) (pgs_cons (pg_tup (by rfl) (pgs_cons (pg_name (i := 8) sc_early_fault.nd rfl (Or.inl rfl)) (pgs_cons (pg_name (i := 4) sc_early_fault.nd rfl (Or.inl rfl)) (pgs_cons (pg_name (i := 6) sc_early_fault.nd rfl (Or.inl rfl)) pgs_nil)))) pgs_nil)))
 (pss_one (ps_if (pt_cmpR op_lt (pv 6) (pe_dget (u1 hr.units) (pv 3) (pv 8) (fun _ _ => rfl)) (nomark _)) (pss_one (ps_ret (pe_tup (pa_cons pe_str (pa_cons (pv 7) pa_nil)))))
 pss_nil)))
 (pss_one (ps_ret pe_non))))), ?_⟩
    repeat walk_at "rd"
    refine r_dc ?_
    repeat walk_at "rd"
    refine ⟨r, rfl, ⟨_, SqL.of er⟩, fun d hd => dc_list (K := K) (a := r) (xs := roots.map V.int) (fun i H' => ∃ kvs : List (L2.Key × V), H' d = some (.dK kvs) ∧ kvs.length ≤ i ∧ (∀ s0 : Int, valV kvs (.inl s0) = if s0 ∈ roots.take i then some (.int 0) else none) ∧ Same H H') ⟨[], upd_same, Nat.le_refl _, fun s0 => by rw [List.take_zero]; rfl, Same.new hd⟩ (fun i H' ⟨_, _, _, _, s⟩ => SqL.of (s _ _ er)) ?_ ?_⟩
    · rintro i x H1 hi ⟨kvs, e1, hl, hv, s1⟩
      obtain ⟨z, hz, rfl⟩ := int_of_get hi
      have hi9 := (List.getElem?_eq_some_iff.mp hz).1
      repeat walk_at "rd"
      refine ⟨rfl, ?_⟩
      repeat walk_at "rd"
      refine ⟨kvs, .inl z, rfl, e1, by rw [sizeLine_eq]; omega, _, upd_same, by have := len_putK (kvs := kvs) (k := (.inl z : L2.Key)) (v := .int 0); omega, fun s0 => ?_, s1.over hd e1⟩
      rw [valV_putK, hv s0, take_more hz]
      by_cases c : s0 = z
      · subst c
        rw [if_pos rfl, if_pos (List.mem_append_right _ (List.mem_singleton.mpr rfl))]
      · rw [if_neg (fun e => c (Sum.inl.inj e))]
        by_cases c2 : s0 ∈ roots.take i
        · rw [if_pos c2, if_pos (List.mem_append_left _ c2)]
        · rw [if_neg c2, if_neg fun z' => by
            rcases List.mem_append.mp z' with z' | z'
            · exact c2 z'
            · exact c (List.mem_singleton.mp z')]
    · rintro H1 ⟨kvs, e1, hl, hv, s1⟩
      rw [List.length_map] at hl
      rw [List.length_map, List.take_length] at hv
      repeat walk_at "rd"
      refine r_forSeq (xs := xs) (fun i σ H' => ∃ (v4 v5 v6 : Option V) (kvs : List (L2.Key × V)), σ = [some (.ref p), some (.ref r), some (.int D), some (.ref d), v4, v5, v6, none, none, none] ∧ H' d = some (.dK kvs) ∧ kvs.length ≤ roots.length + i ∧ (∀ s0 : Int, s0 ∈ roots ∨ (∃ m, m ∈ rs.take i ∧ m.2.1 = s0) → valV kvs (.inl s0) = some (.int (knownOf (rs.take i) roots D s0))) ∧ Same H H') (by intro QA q; (repeat walk_at "rd"); exact q) (ep.keep s1) ⟨_, _, _, kvs, rfl, e1, hl, fun s0 hs0 => ?_, s1⟩ (fun i σ H' ⟨_, _, _, _, _, _, _, _, s⟩ => ?_) ?_ ?_
      · rcases hs0 with hs0 | ⟨m, hm, _⟩
        · rw [hv s0, if_pos hs0]
          unfold knownOf
          rw [if_pos hs0]
        · rw [List.take_zero] at hm
          cases hm
      · rcases ep with ep | ep
        · exact ⟨fun _ => s _ _ ep, fun ho => by
            have := s1 _ _ ep
            rw [ho] at this
            cases this⟩
        · exact ⟨fun ho => absurd (ho.symm.trans (s1 _ _ ep)) (fun z => nomatch z), fun _ => s _ _ ep⟩
      · rintro i x σ H2 hi ⟨v4, v5, v6, kvs, rfl, e2, hl2, hv2, s2⟩
        obtain ⟨t, l, rfl, hl1, et⟩ := (hA.keep s2).get hi
        have hi9 := (List.getElem?_eq_some_iff.mp hl1).1
        repeat walk_at "rd"
        refine r_setK e2 (by omega) ?_
        refine ⟨_, _, _, _, rfl, upd_same, by have := len_putK (kvs := kvs) (k := (.inl l.2.1 : L2.Key)) (v := .int (l.2.2 + D)); omega, fun s0 hs0 => ?_, s2.over hd e2⟩
        rw [valV_putK, known_take hl1]
        have hnew : ¬ ∃ x, x ∈ rs.take i ∧ x.2.1 = l.2.1 := fun ⟨x, hx, he⟩ => by
          obtain ⟨j, hj⟩ := List.mem_iff_getElem?.mp hx
          have hji : j < i := by
            have := (List.getElem?_eq_some_iff.mp hj).1
            rw [List.length_take] at this
            omega
          rw [List.getElem?_take, if_pos hji] at hj
          have e1 : (rs.map (·.2.1))[j]? = some l.2.1 := by rw [List.getElem?_map, hj]; exact congrArg Option.some he
          have e2 : (rs.map (·.2.1))[i]? = some l.2.1 := by rw [List.getElem?_map, hl1]; rfl
          obtain ⟨hj1, hj2⟩ := List.getElem?_eq_some_iff.mp e1
          obtain ⟨hi1, hi2⟩ := List.getElem?_eq_some_iff.mp e2
          exact (List.pairwise_iff_getElem.mp hnd) j i hj1 hi1 hji (hj2.trans hi2.symm)
        by_cases c : s0 = l.2.1
        · subst c
          rw [if_pos rfl, if_neg (hnr l (List.mem_iff_getElem?.mpr ⟨i, hl1⟩)), if_neg hnew, if_pos rfl]
        · rw [if_neg (fun e => c (Sum.inl.inj e))]
          rcases hs0 with hs0 | ⟨m, hm, rfl⟩
          · rw [hv2 s0 (.inl hs0), if_pos hs0]
            unfold knownOf
            rw [if_pos hs0]
          · rw [take_more hl1] at hm
            rcases List.mem_append.mp hm with hm | hm
            · rw [hv2 _ (.inr ⟨m, hm, rfl⟩), if_neg (hnr m (List.mem_of_mem_take hm)), if_pos ⟨m, hm, rfl⟩]
            · rw [List.mem_singleton] at hm
              subst hm
              exact absurd rfl c
      · rintro σ H2 ⟨v4, v5, v6, kvs, rfl, e2, hl2, hv2, s2⟩
        rw [hA.1, List.take_length] at hv2
        have hA2 := hA.keep s2
        repeat walk_at "rd"
        refine r_enS2 (xs := xs) (by intro QA q; (repeat walk_at "rd"); exact q) (ep.keep s2) (fun i σ H' => ∃ v4 v5 v6 v7 v8 : Option V, σ = [some (.ref p), some (.ref r), some (.int D), some (.ref d), v4, v5, v6, v7, v8, none] ∧ Same H2 H' ∧ ∀ j, j < i → decide ((rs.getD j (0, 0, 0)).2.2 < knownOf rs roots D (rs.getD j (0, 0, 0)).1) = false) ⟨_, _, _, _, _, rfl, Same.refl _, fun j hj => absurd hj (by omega)⟩ (fun i σ H' ⟨_, _, _, _, _, _, s, _⟩ => s.seqK) ?_ ?_
        · rintro i x σ H3 u2 H4 hx ⟨v4, v5, v6, v7, v8, rfl, s3, hb⟩ nu2 rfl
          have s4 : Same H2 (upd H3 u2 (.tup [.int (i : Nat), x])) := s3.trans (Same.new nu2)
          obtain ⟨t, l, rfl, hl1, et⟩ := (hA2.keep s4).get hx
          have hi9 := (List.getElem?_eq_some_iff.mp hl1).1
          have ed := s4 _ _ e2
          have hk := hv2 l.1 (hsend l (List.mem_iff_getElem?.mpr ⟨i, hl1⟩))
          repeat first | walk_at "rd" | walk_at "rdi"
          refine r_dget ?_
          repeat first | walk_at "rd" | walk_at "rdi"
          refine r_getK ed hk ?_
          repeat first | walk_at "rd" | walk_at "rdi"
          refine ite_d (fun hc => ?_) (fun hc => ?_)
          · repeat walk_at "rd"
            refine new_at (Nat.le_of_ble_eq_true rfl) (fun z H5 nz s5 ez => ?_)
            refine k _ _ ((s2.trans s4).trans s5) ?_
            unfold earlyF
            rw [first_some (i := i) hi9 (by rw [getD_of hl1]; exact decide_eq_true hc) hb]
            exact ⟨z, rfl, ez⟩
          · repeat first | exact ⟨_, _, _, _, _, rfl, s4, fun j hj => by
              by_cases e : j = i
              · subst e; rw [getD_of hl1]; exact decide_eq_false hc
              · exact hb j (by omega)⟩ | walk_at "rd"
        · rintro σ H3 ⟨v4, v5, v6, v7, v8, rfl, s3, hb⟩
          rw [hA.1] at hb
          repeat walk_at "rd"
          refine k _ _ (s2.trans s3) ?_
          unfold earlyF
          rw [first_none hb]
          rfl
theorem ok_is_near (T : Txt K mg base a) : FnOk P w K mg base CX0 1 a.a_is_near a.d_is_near ["times", "hand", "time", "width"] spIsNear := by
  refine T.F_is_near.ok sc_is_near (fun vs H Q E h => ?_) (fun cdv A outer s H vs Q E hr h => ?_)
  · obtain ⟨d, h, t, w_, kvs, prev, rfl, _⟩ := h
    rfl
  · obtain ⟨d, h, t, w_, kvs, prev, rfl, ed, hM, w0, w9, k⟩ := h
    refine ⟨_, (pss_cons (ps_set (i := 4) sc_is_near.nd rfl (Or.inl rfl) (pe_op op_fdivW (pv 2) (pv 3)))
 (pss_cons (ps_for (by exact PassesOwn.never) rfl (pi_tup (pe_tup (pa_cons (pe_op op_sub (pv 4) pe_int) (pa_cons (pv 4) (pa_cons (pe_op op_add (pv 4) pe_int) pa_nil))))) (pg_name (i := 5) sc_is_near.nd rfl (Or.inl rfl))
 (pss_cons (ps_set (i := 6) sc_is_near.nd rfl (Or.inl rfl) (pe_dget1 (u1 hr.units) (pv 0) (pe_tup (pa_cons (pv 1) (pa_cons (pv 5) pa_nil))) ⟨rfl, rfl, rfl, rfl⟩))
 (pss_one (ps_if (PW.pt (pw_and (pt_cmpR op_notNo (pv 6) pe_non (nomark _)) (pw_and1 (pt_cmpR op_lt (pe_callB call_abs (by rfl) T.n_abs (by decide +kernel) (pa_cons (pe_op op_sub (pv 2) (pv 6)) pa_nil)) (pv 3) (nomark _))))) (pss_one (ps_ret pe_bl))
 pss_nil))))
 (pss_one (ps_ret pe_bl)))), ?_⟩
    have hw9 : CDivW t w_ := cdiv_of w0 (by omega)
    repeat walk_at "rd"
    obtain ⟨sl, hsl⟩ : ∃ sl, t / w_ = sl := ⟨_, rfl⟩
    rw [hsl]
    have hN : nearP w_ prev (h, t) = true ↔ ∃ s, (s = sl - 1 ∨ s = sl ∨ s = sl + 1) ∧ ∃ t', valV kvs (kk h s) = some (.int t') ∧ -w_ < t - t' ∧ t - t' < w_ := by rw [← hsl]; exact hM.near w0
    refine new_at (Nat.le_of_ble_eq_true rfl) (fun u H1 nu s1 eu => ?_)
    have ed := s1 _ _ ed
    repeat walk_at "rd"
    refine ⟨u, rfl, ⟨_, SqT.of eu⟩, for_tup (K := K) (a := u) (xs := [.int (sl - 1), .int sl, .int (sl + 1)]) (fun i σ H' => ∃ v5 v6 : Option V, σ = [some (.ref d), some (.int h), some (.int t), some (.int w_), some (.int sl), v5, v6] ∧ Same H1 H' ∧ ∀ s, s ∈ [sl - 1, sl, sl + 1].take i → ¬ ∃ t', valV kvs (kk h s) = some (.int t') ∧ -w_ < t - t' ∧ t - t' < w_) ⟨_, _, rfl, Same.refl _, fun s hs => by rw [List.take_zero] at hs; cases hs⟩ (fun i σ H' _ ⟨_, _, _, s, _⟩ => SqT.of (s _ _ eu)) ?_ ?_⟩
    · rintro i x σ H2 hi ⟨v5, v6, rfl, s2, hb⟩
      obtain ⟨s0, hs0, rfl⟩ := int_of_get (ns := [sl - 1, sl, sl + 1]) hi
      have hs3 : s0 = sl - 1 ∨ s0 = sl ∨ s0 = sl + 1 := by
        have := List.mem_iff_getElem?.mpr ⟨i, hs0⟩
        simpa using this
      have ed := s2 _ _ ed
      repeat first | walk_at "rd" | walk_at "rdi"
      refine r_dget1 ?_
      repeat first | walk_at "rd" | walk_at "rdi"
      refine ⟨d, rfl, .inr ⟨kvs, .inl ed⟩, ?_⟩
      repeat first | walk_at "rd" | walk_at "rdi"
      refine new_at (Nat.le_of_ble_eq_true rfl) (fun b H3 nb s3 eb => ?_)
      have ed := s3 _ _ ed
      refine ⟨valV kvs (kk h s0), DGet.t ed (k := kk h s0) eb, ?_⟩
      have go : (¬ ∃ t', valV kvs (kk h s0) = some (.int t') ∧ -w_ < t - t' ∧ t - t' < w_) → ∀ v6 : V, ∃ v5' v6' : Option V, [some (.ref d), some (.int h), some (.int t), some (.int w_), some (.int sl), some (.int s0), some v6] = [some (.ref d), some (.int h), some (.int t), some (.int w_), some (.int sl), v5', v6'] ∧ Same H1 H3 ∧ ∀ s, s ∈ [sl - 1, sl, sl + 1].take (i + 1) → ¬ ∃ t', valV kvs (kk h s) = some (.int t') ∧ -w_ < t - t' ∧ t - t' < w_ := fun hno v6 => ⟨_, _, rfl, s2.trans s3, fun s hs => by
        rw [take_more hs0] at hs
        rcases List.mem_append.mp hs with hs | hs
        · exact hb s hs
        · rw [List.mem_singleton] at hs
          subst hs
          exact hno⟩
      cases hv : valV kvs (kk h s0) with
      | none =>
        have go := go (fun ⟨t', e, _⟩ => by rw [hv] at e; cases e) .non
        dsimp only [Option.getD_none]
        repeat first | exact go | walk_at "rd" | walk_at "rdi"
      | some v =>
        obtain ⟨t', rfl, _, _⟩ := hM.of h s0 v hv
        dsimp only [Option.getD_some]
        repeat first | walk_at "rd" | walk_at "rdi"
        refine ite_d (fun hc => ?_) (fun hc => ?_)
        · have hyes : nearP w_ prev (h, t) = true := hN.mpr ⟨s0, hs3, t', hv, by split at hc <;> omega, by split at hc <;> omega⟩
          rw [hyes] at k
          repeat walk_at "rd"
          exact k _ ((s1.trans s2).trans s3)
        · have go := go (fun ⟨t2, e, h1, h2⟩ => by
            rw [hv] at e
            obtain rfl := V.int.inj (Option.some.inj e)
            exact hc (by split <;> omega)) (.int t')
          repeat first | exact go | walk_at "rd" | walk_at "rdi"
    · rintro σ H2 ⟨v5, v6, rfl, s2, hb⟩
      have hno : nearP w_ prev (h, t) = false := Bool.eq_false_iff.mpr fun z => by
        obtain ⟨s0, hs3, rest⟩ := hN.mp z
        exact hb s0 (by show s0 ∈ [sl - 1, sl, sl + 1]; simpa using hs3) rest
      rw [hno] at k
      repeat walk_at "rd"
      exact k _ (s1.trans s2)
end

/-! ### the program's faults, read: rows too near, telling, plans -/
theorem flat_len {α : Type} {c : Nat} : ∀ {ms : List (List α)}, (∀ m, m ∈ ms → m.length ≤ c) → ms.flatten.length ≤ c * ms.length
  | [], _ => Nat.zero_le _
  | m :: ms, h => by
    have h1 := h m (List.mem_cons_self ..)
    have h2 := flat_len (ms := ms) fun x hx => h x (List.mem_cons_of_mem _ hx)
    rw [List.flatten_cons, List.length_append, List.length_cons, Nat.mul_succ]
    omega
theorem flat_more {α : Type} {ms : List (List α)} {i : Nat} {m : List α} (h : ms[i]? = some m) : (ms.take (i + 1)).flatten = (ms.take i).flatten ++ m := by
  rw [take_more h, List.flatten_append, List.flatten_cons, List.flatten_nil, List.append_nil]
theorem r_dnewT {σ : St} {H : Hp} {Q : VK} (k : ∀ p H', H p = none → Same H H' → H' p = some (.dT []) → Q (.ref p) H') : tDNewT σ H Q := new_of k
theorem r_lstRg {ta : TE} {σ : St} {H : Hp} {Q : VK} (h : ta σ H fun x H1 => ∃ n, x = .int n ∧ (RgOk 0 n ∧ ∀ q, H1 q = none → Q (.ref q) (upd H1 q (.lst (rgV 0 n))))) : tLstRg (tRg1 ta) σ H Q := h
def upTo (n : Int) : List Int := (List.range n.toNat).map fun h : Nat => (h : Int)
theorem mem_upTo {n x : Int} : x ∈ upTo n ↔ 0 ≤ x ∧ x < n := by
  unfold upTo
  rw [List.mem_map]
  constructor
  · rintro ⟨k, hk, rfl⟩
    have := List.mem_range.mp hk
    omega
  · intro h
    exact ⟨x.toNat, List.mem_range.mpr (by omega), by omega⟩
theorem rg_is {n : Int} (h : 0 ≤ n) : rgV 0 n = (upTo n).map V.int := by
  unfold rgV upTo
  rw [Int.sub_zero, List.map_map]
  refine List.map_congr_left fun x _ => ?_
  show V.int (0 + (x : Int)) = V.int x
  rw [Int.zero_add]
theorem again_none {ks ts : List Int} (h : againF ks ts = none) : ks.Nodup ∧ ∀ k, k ∈ ks → k ∉ ts := by
  unfold againF atIx at h
  rw [Option.map_eq_none_iff] at h
  have h := first_no h
  constructor
  · unfold List.Nodup
    rw [List.pairwise_iff_getElem]
    intro i j hi hj hij e
    have := h j hj
    rw [getD_of (List.getElem?_eq_getElem hj), decide_eq_false_iff_not] at this
    refine this (List.mem_append_right _ ?_)
    rw [← e]
    exact List.mem_iff_getElem?.mpr ⟨i, by rw [List.getElem?_take, if_pos hij, List.getElem?_eq_getElem hi]⟩
  · intro k hk
    obtain ⟨i, hi⟩ := List.mem_iff_getElem?.mp hk
    have := h i (List.getElem?_eq_some_iff.mp hi).1
    rw [getD_of hi, decide_eq_false_iff_not] at this
    exact fun z => this (List.mem_append_left _ z)
theorem nobody_none {ws ks : List Int} (h : nobodyF ws ks = none) : ∀ k, k ∈ ws → k ∈ ks := by
  unfold nobodyF at h
  rw [Option.map_eq_none_iff, List.find?_eq_none] at h
  intro k hk
  have := h k hk
  simpa using this
theorem hand_none {n fs fr : Int} {ps : List (Int × Int)} (h : handF n fs fr ps = none) : ∀ g, g ∈ ps → (fs ≤ g.1 ∧ g.1 < n) ∧ (fr ≤ g.2 ∧ g.2 < n) ∧ g.1 ≠ g.2 := by
  unfold handF atIx at h
  rw [Option.map_eq_none_iff] at h
  intro g hg
  obtain ⟨i, hi⟩ := List.mem_iff_getElem?.mp hg
  have := first_no h i (List.getElem?_eq_some_iff.mp hi).1
  rw [getD_of hi] at this
  unfold badHand at this
  simpa using this
def recvs (rs : List L3) : List Int := rs.map (·.2.1)
def tellingF (rs : List L3) (roots ws : List Int) (D : Int) : Flt := (againF (recvs rs) roots).or ((nobodyF ws (roots ++ recvs rs)).or (earlyF rs roots D))
def rowF (n : Int) (rs : List L3) : Flt := (formS (rs.map (·.2.2))).or (handF n 0 1 (rs.map fun l => (l.1, l.2.1)))
def gapMarks (rs : List L3) : List (List (Int × Int)) := rs.map fun l => [(l.1, l.2.2)]
def faultF (D G n : Int) (rs : List L3) : Flt := (rowF n rs).or ((tellingF rs [0] (upTo n) D).or (nearF "gap" (gapMarks rs) G))
def spTelling : Sp := fun vs H Q _ => ∃ (p r q : Addr) (D : Int) (xs : List V) (rs : List L3) (roots ws : List Int), vs = [.ref p, .ref r, .ref q, .int D] ∧ SeqV H p xs ∧ TrisAt H xs rs ∧ H r = some (.lst (roots.map V.int)) ∧ H q = some (.lst (ws.map V.int)) ∧ roots.length ≤ 400 ∧ rs.length ≤ 400 ∧ (∀ l, l ∈ rs → l.1 ∈ ws) ∧ ∀ v H', Same H H' → FltAt H' v (tellingF rs roots ws D) → Q v H'
def spRowF : Sp := fun vs H Q _ => ∃ (n : Int) (p : Addr) (xs : List V) (rs : List L3), vs = [.int n, .ref p] ∧ SeqV H p xs ∧ TrisAt H xs rs ∧ rs.length ≤ 400 ∧ ∀ v H', Same H H' → FltAt H' v (rowF n rs) → Q v H'
def spFault (M : Addr) : Sp := fun vs H Q _ => ∃ (m p : Addr) (o l g n : Int) (xs : List V) (rs : List L3), vs = [.ref m, .int n, .ref p] ∧ MachAt M H m o l g ∧ 0 ≤ gapOf o g ∧ gapOf o g < 2 ^ 64 ∧ (1 ≤ n ∧ n ≤ 100) ∧ SeqV H p xs ∧ TrisAt H xs rs ∧ rs.length ≤ 400 ∧ ∀ v H', Same H H' → FltAt H' v (faultF (2 * o + l) (gapOf o g) n rs) → Q v H'
theorem TrisAt.rowsG {H : Hp} {xs : List V} {rs : List L3} (h : TrisAt H xs rs) : RowsG H 2 xs (rs.map (·.2.2)) := ⟨by rw [List.length_map, h.1], fun i s hs => by
  rw [List.getElem?_map] at hs
  cases e : rs[i]? with
  | none => rw [e] at hs; cases hs
  | some l =>
    rw [e] at hs
    obtain rfl := Option.some.inj hs
    obtain ⟨t, e1, e2⟩ := h.2 i l e
    exact ⟨t, [l.1, l.2.1], e1, e2, rfl⟩⟩
section
variable {P : Program} {w : World} {K : PySem.W.Frag} {mg : Str → Option Value} {base : Heap} {a : Adr}
theorem ok_near_fault (T : Txt K mg base a) : FnOk P w K mg base CX0 2 a.a_near_fault a.d_near_fault ["why", "marks", "width"] spNear := by
  refine T.F_near_fault.ok sc_near_fault (fun vs H Q E h => ?_) (fun cdv A outer s H vs Q E hr h => ?_)
  · obtain ⟨why, p, w_, xs, ms, rfl, _⟩ := h
    rfl
  · obtain ⟨why, p, w_, xs, ms, rfl, ep, hA, hl9, hm4, w0, w9, k⟩ := h
    refine ⟨_, (pss_cons (ps_if (pt_cmpR op_eq (pv 2) pe_int (nomark _)) (pss_one (ps_ret pe_non))
 pss_nil)
 (pss_cons (ps_set (i := 3) sc_near_fault.nd rfl (Or.inl rfl) pe_dnewT)
 (pss_cons (ps_for (by exact PassesOwn.never) rfl (pi_enumS (by rfl) T.n_enumerate (pa_cons (pv 1) pa_nil)) (pg_tup (by rfl) (pgs_cons (pg_name (i := 4) sc_near_fault.nd rfl (Or.inl rfl)) (pgs_cons (pg_name (i := 5) sc_near_fault.nd rfl (Or.inl rfl)) pgs_nil)))
 (pss_one (ps_for (by exact PassesOwn.never) rfl (pi_list (pv 5)) (pg_tup (by rfl) (pgs_cons (pg_name (i := 6) sc_near_fault.nd rfl (Or.inl rfl)) (pgs_cons (pg_name (i := 7) sc_near_fault.nd rfl (Or.inl rfl)) pgs_nil)))
 (pss_cons (ps_if (pt_val (pe_call (ok_is_near T) (hr.mono (by decide)) (by rfl) T.g_is_near T.F_is_near.kp T.b_is_near .nil pass0 (pa_cons (pv 3) (pa_cons (pv 6) (pa_cons (pv 7) (pa_cons (pv 2) pa_nil)))))) (pss_one (ps_ret (pe_tup (pa_cons (pv 0) (pa_cons (pv 4) pa_nil)))))
 pss_nil)
 (pss_one (ps_asg (pv 7) (pg_sub (pv 3) (pe_tup (pa_cons (pv 6) (pa_cons (pe_op op_fdivW (pv 7) (pv 2)) pa_nil))) (set_dict (u1 hr.units)))))))))
 (pss_one (ps_ret pe_non))))), ?_⟩
    repeat first | walk_at "rd" | walk_at "rdi"
    refine ite_d (fun hc => ?_) (fun hc => ?_)
    · repeat walk_at "rd"
      refine k _ _ (Same.refl _) ?_
      unfold nearF
      rw [if_pos hc]
      rfl
    have hnf : nearF why ms w_ = atIx why (first (rowNear w_ ms) ms.length) := if_neg hc
    rw [hnf] at k
    have w0 : 0 < w_ := by omega
    repeat first | walk_at "rd" | walk_at "rdi"
    refine r_dnewT (fun d H1 nd s1 ed => ?_)
    repeat walk_at "rd"
    refine r_enS2 (xs := xs) (by intro QA q; (repeat walk_at "rd"); exact q) (.inl (s1 _ _ ep)) (fun i σ H' => ∃ (v4 v5 v6 v7 : Option V) (kvs : List (List L2.Key × V)), σ = [some (.str why), some (.ref p), some (.int w_), some (.ref d), v4, v5, v6, v7] ∧ H' d = some (.dT kvs) ∧ Marks w_ kvs (ms.take i).flatten ∧ Same H H' ∧ ∀ j, j < i → rowNear w_ ms j = false) ⟨_, _, _, _, [], rfl, ed, Marks.nil, s1, fun j hj => absurd hj (by omega)⟩ (fun i σ H' ⟨_, _, _, _, _, _, _, _, s, _⟩ => ?_) ?_ ?_
    · exact ⟨fun _ => s _ _ ep, fun ho => by
        have := s1 _ _ ep
        rw [ho] at this
        cases this⟩
    · clear ed
      rintro i x σ H2 u2 H3 hx ⟨v4, v5, v6, v7, kvs, rfl, ed, hM, s2, hb⟩ nu2 rfl
      have s3 : Same H (upd H2 u2 (.tup [.int (i : Nat), x])) := s2.trans (Same.new nu2)
      have ed : upd H2 u2 (.tup [.int (i : Nat), x]) d = some (.dT kvs) := (upd_ne (ne_of_none ed nu2)).trans ed
      obtain ⟨t, ys, m, rfl, hm1, et, hP⟩ := (hA.keep s3).get hx
      have hi9 := (List.getElem?_eq_some_iff.mp hm1).1
      have hmem : m ∈ ms := List.mem_iff_getElem?.mpr ⟨i, hm1⟩
      have hm9 := hm4 m hmem
      have hfl : (ms.take i).flatten.length ≤ 4 * 1000 := by
        have h1 := flat_len (ms := ms.take i) (c := 4) fun x hx => hm4 x (List.mem_of_mem_take hx)
        rw [List.length_take] at h1
        omega
      have eu2 : upd H2 u2 (.tup [.int (i : Nat), .ref t]) u2 = some (.tup [.int (i : Nat), .ref t]) := upd_same
      have ntd : t ≠ d := fun z => by
        have h1 := (hA.2 i m hm1)
        obtain ⟨t', ys', e1, e2, _⟩ := h1
        obtain rfl : t = t' := V.ref.inj (Option.some.inj (hx.symm.trans e1))
        rw [z, nd] at e2
        cases e2
      generalize upd H2 u2 (.tup [.int (i : Nat), .ref t]) = H3 at s3 ed et hP eu2 ⊢
      repeat walk_at "rd"
      refine ⟨t, rfl, ⟨_, SqL.of et⟩, for_list (K := K) (a := t) (xs := ys) (fun j σ H' => ∃ (v6 v7 : Option V) (kvs : List (List L2.Key × V)), σ = [some (.str why), some (.ref p), some (.int w_), some (.ref d), some (.int (i : Nat)), some (.ref t), v6, v7] ∧ H' d = some (.dT kvs) ∧ Marks w_ kvs ((ms.take i).flatten ++ m.take j) ∧ Same H H' ∧ PairsAt H' ys m ∧ H' t = some (.lst ys) ∧ ∀ j', j' < j → nearP w_ ((ms.take i).flatten ++ m.take j') (m.getD j' (0, 0)) = false) ⟨_, _, kvs, rfl, ed, by rw [List.take_zero, List.append_nil]; exact hM, s3, hP, et, fun j hj => absurd hj (by omega)⟩ (fun j σ H' _ ⟨_, _, _, _, _, _, _, _, h, _⟩ => SqL.of h) ?_ ?_⟩
      · clear ed hM s3 hP et eu2 s2 nu2
        rintro j y σ H4 hy ⟨v6, v7, kvs, rfl, ed, hM, s4, hP, et, hb2⟩
        obtain ⟨tp, g, rfl, hg, etp⟩ := hP.get hy
        have hj9 := (List.getElem?_eq_some_iff.mp hg).1
        have hw9 : CDivW g.2 w_ := cdiv_of w0 (by omega)
        repeat first | walk_at "rd" | walk_at "rdi"
        refine ⟨d, g.1, g.2, w_, kvs, _, rfl, ed, hM, w0, w9, fun H5 s5 => ?_⟩
        have s5' := s4.trans s5
        have ed := s5 _ _ ed
        cases hn : nearP w_ ((ms.take i).flatten ++ m.take j) (g.1, g.2) with
        | true =>
          repeat first | walk_at "rd" | walk_at "rdi"
          refine new_at (Nat.le_of_ble_eq_true rfl) (fun z H6 nz s6 ez => ?_)
          refine k _ _ (s5'.trans s6) ?_
          rw [first_some (i := i) hi9 ?_ hb]
          · exact ⟨z, rfl, ez⟩
          · unfold rowNear
            rw [getD_of hm1, List.any_eq_true]
            exact ⟨j, List.mem_range.mpr hj9, by rw [getD_of hg]; exact hn⟩
        | false =>
          repeat first | walk_at "rd" | walk_at "rdi"
          refine new_at (Nat.le_of_ble_eq_true rfl) (fun b H6 nb s6 eb => ?_)
          have ed := s6 _ _ ed
          repeat first | walk_at "rd" | walk_at "rdi"
          refine ⟨d, _, rfl, DPut.t ed (k := kk g.1 (g.2 / w_)) eb (by rw [sizeLine_eq]; have := hM.len; rw [List.length_append, List.length_take] at this; omega), ?_⟩
          have s56 := s5.trans s6
          refine ⟨_, _, _, rfl, upd_same, ?_, (s5'.trans s6).over nd ed, ?_, (upd_ne ntd).trans (s56 _ _ et), fun j' hj' => ?_⟩
          · rw [take_more hg, ← List.append_assoc]
            exact hM.put w0 hn
          · exact ⟨hP.1, fun i' g' hg' => by
              obtain ⟨t', e1, e2⟩ := (hP.keep s56).2 i' g' hg'
              exact ⟨t', e1, (upd_ne (fun z => by rw [z, ed] at e2; cases e2)).trans e2⟩⟩
          · by_cases e : j' = j
            · subst e; rw [getD_of hg]; exact hn
            · exact hb2 j' (by omega)
      · clear ed hM s3 hP et eu2 s2 nu2
        rintro σ H4 ⟨v6, v7, kvs, rfl, ed, hM, s4, hP, et, hb2⟩
        rw [hP.1] at hb2 hM
        rw [List.take_length] at hM
        repeat first | walk_at "rd" | walk_at "rdi"
        refine ⟨_, _, _, _, kvs, rfl, ed, by rw [flat_more hm1]; exact hM, s4, fun j hj => ?_⟩
        by_cases e : j = i
        · subst e
          unfold rowNear
          rw [getD_of hm1, List.any_eq_false]
          intro x hx
          rw [hb2 x (List.mem_range.mp hx)]
          exact Bool.false_ne_true
        · exact hb j (by omega)
    · rintro σ H2 ⟨v4, v5, v6, v7, kvs, rfl, ed, hM, s2, hb⟩
      rw [hA.1] at hb
      repeat walk_at "rd"
      refine k _ _ s2 ?_
      rw [first_none hb]
      rfl
end

local macro_rules | `(tactic| walk_at "lk") => `(tactic| first | exact mf_o | exact mf_l | exact mf_g | exact mf_letter | exact mf_gap)

/-! ### check_count of a right number -/
def spCheckCount : Sp := fun vs H Q _ => ∃ (t lo hi : Int), vs = [.int t, .int lo, .int hi] ∧ lo ≤ t ∧ t ≤ hi ∧ Q .non H
section
variable {P : Program} {w : World} {K : PySem.W.Frag} {mg : Str → Option Value} {base : Heap} {a : Adr}
theorem ok_check_count (T : Txt K mg base a) : FnOk P w K mg base CX0 3 a.a_check_count a.d_check_count ["count", "low", "high"] spCheckCount := by
  refine T.F_check_count.ok sc_check_count (fun vs H Q E h => ?_) (fun cdv A outer s H vs Q E hr h => ?_)
  · obtain ⟨t, lo, hi, rfl, _⟩ := h
    rfl
  · obtain ⟨t, lo, hi, rfl, h0, h1, k⟩ := h
    refine ⟨_, (pss_one (ps_if (pt_not (pt_val (pe_call (ok_is_between T) (hr.mono (by decide)) (by rfl) T.g_is_between T.F_is_between.kp T.b_is_between .nil pass0 (pa_cons (pv 0) (pa_cons (pv 1) (pa_cons (pv 2) pa_nil)))))) (pss_one ps_never)
 pss_nil)), ?_⟩
    repeat walk_at "rd"
    refine r_between ?_
    repeat walk_at "rd"
    refine r_nDT ⟨h0, h1⟩ ?_
    repeat walk_at "rd"
    exact k
end

/-! ### the program's faults of plans, read -/
theorem FltAt.or_left {H : Hp} {v : V} {f g : Flt} (h : FltAt H v f) (n : f ≠ none) : FltAt H v (f.or g) := by
  cases f with
  | none => exact absurd rfl n
  | some x => exact h
theorem FltAt.or_right {H : Hp} {v : V} {f g : Flt} (h : FltAt H v g) (n : f = none) : FltAt H v (f.or g) := by
  subst n; exact h
section
variable {P : Program} {w : World} {K : PySem.W.Frag} {mg : Str → Option Value} {base : Heap} {a : Adr}
theorem ok_telling_fault (T : Txt K mg base a) : FnOk P w K mg base CX0 2 a.a_telling_fault a.d_telling_fault ["told", "roots", "wanted", "letter"] spTelling := by
  refine T.F_telling_fault.ok sc_telling_fault (fun vs H Q E h => ?_) (fun cdv A outer s H vs Q E hr h => ?_)
  · obtain ⟨p, r, q, D, xs, rs, roots, ws, rfl, _⟩ := h
    rfl
  · obtain ⟨p, r, q, D, xs, rs, roots, ws, rfl, ep, hA, er, eq, hro, hrs, hsend, k⟩ := h
    refine ⟨_, (pss_cons (ps_setLc (i := 4) (own := [("_", 5), ("receiver", 6)]) (g := gTup K 3 (gCons (gName 5) (gCons (gName 6) (gCons (gName 5) (gNil))))) (tt := tYes) rfl sc_telling_fault.nd rfl rfl (sw_true rfl rfl rfl (by decide +kernel)) (pi_seq (pv 0)) (blkOk_by (own := [("_", 5), ("receiver", 6)]) (N := ["told", "roots", "wanted", "letter", "receivers", "_", "receiver"]) (sc := defScope s_telling_fault) (by decide +kernel)) (fun _ _ _ _ _ => (pg_tupK (K := K) (n := 3) rfl (by rfl) (pgs_cons (pg_name (i := 5) sc_telling_fault.nd rfl (Or.inl rfl)) (pgs_cons (pg_name (i := 6) sc_telling_fault.nd rfl (Or.inl rfl)) (pgs_cons (pg_name (i := 5) sc_telling_fault.nd rfl (Or.inl rfl)) pgs_nil))))) (fun _ _ _ _ _ => pts_nil) (fun _ _ _ _ _ => (pv 6)))
 (pss_one (ps_ret (pe_orT (pe_call (ok_again_fault T) (hr.mono (by decide)) (by rfl) T.g_again_fault T.F_again_fault.kp T.b_again_fault .nil pass0 (pa_cons (pv 4) (pa_cons (pv 1) pa_nil))) (pe_orT (pe_call (ok_nobody_fault T) (hr.mono (by decide)) (by rfl) T.g_nobody_fault T.F_nobody_fault.kp T.b_nobody_fault .nil pass0 (pa_cons (pv 2) (pa_cons (pe_op op_cat (pv 1) (pv 4)) pa_nil))) (pe_one (pe_call (ok_early_fault T) (hr.mono (by decide)) (by rfl) T.g_early_fault T.F_early_fault.kp T.b_early_fault .nil pass0 (pa_cons (pv 0) (pa_cons (pv 1) (pa_cons (pv 3) pa_nil)))))))))), ?_⟩
    repeat walk_at "rd"
    refine r_lcSeq (xs := xs) (fun L i H' => H' L = some (.lst (((rs.take i).map (·.2.1)).map V.int)) ∧ Same H H') (by intro QA q; (repeat walk_at "rd"); exact q) ep (fun L hL => ⟨upd_same, Same.new hL⟩) (fun L i H' hL h => h.2.seqK) ?_ ?_
    · rintro L i x H1 hL hx ⟨e1, s1⟩
      obtain ⟨t, l, rfl, hl1, et⟩ := (hA.keep s1).get hx
      have hi9 := (List.getElem?_eq_some_iff.mp hl1).1
      repeat walk_at "rd"
      refine ⟨rfl, ?_⟩
      repeat walk_at "rd"
      refine ⟨_, e1, small1000 (by rw [List.length_map, List.length_map, List.length_take]; omega), ?_, s1.over hL e1⟩
      rw [upd_same, take_more hl1, List.map_append, List.map_append]
      rfl
    · rintro L H1 hL ⟨e1, s1⟩
      rw [hA.1, List.take_length] at e1
      have e1 : H1 L = some (.lst ((recvs rs).map V.int)) := e1
      have hrl : (recvs rs).length = rs.length := List.length_map _
      repeat walk_at "rd"
      refine r_orT ?_
      repeat walk_at "rd"
      refine ⟨L, r, recvs rs, roots, rfl, e1, s1 _ _ er, by omega, by omega, fun v H2 s2 hv => ?_⟩
      refine r_orF hv (fun hn => k _ _ (s1.trans s2) (hv.or_left hn)) (fun hn => ?_)
      have k : ∀ v H', Same H H' → FltAt H' v ((nobodyF ws (roots ++ recvs rs)).or (earlyF rs roots D)) → Q v H' := fun v H' h1 h2 => k v H' h1 (h2.or_right hn)
      obtain ⟨hnd, hnr⟩ := again_none hn
      have s12 := s1.trans s2
      refine r_orT ?_
      repeat walk_at "rd"
      refine r_cat (s12 _ _ er) (s2 _ _ e1) (by rw [List.length_map, List.length_map]; omega) (fun c H3 nc s3 ec => ?_)
      rw [← List.map_append] at ec
      have s13 := s12.trans s3
      repeat walk_at "rd"
      refine ⟨q, c, ws, roots ++ recvs rs, rfl, s13 _ _ eq, ec, by rw [List.length_append]; omega, fun v H4 s4 hv => ?_⟩
      have s14 := s13.trans s4
      refine r_orF hv (fun hn => k _ _ s14 (hv.or_left hn)) (fun hn2 => ?_)
      have hall := nobody_none hn2
      repeat walk_at "rd"
      refine ⟨p, r, D, xs, rs, roots, rfl, ep.keep s14, hA.keep s14, s14 _ _ er, by omega, by omega, hnd, fun l hl => hnr _ (List.mem_map.mpr ⟨l, hl, rfl⟩), fun l hl => ?_, fun v H5 s5 hv => k _ _ (s14.trans s5) (hv.or_right hn2)⟩
      rcases List.mem_append.mp (hall _ (hsend l hl)) with h | h
      · exact .inl h
      · obtain ⟨m, hm, e⟩ := List.mem_map.mp h
        exact .inr ⟨m, hm, e⟩
end

section
variable {P : Program} {w : World} {K : PySem.W.Frag} {mg : Str → Option Value} {base : Heap} {a : Adr}
theorem ok_row_fault (T : Txt K mg base a) : FnOk P w K mg base CX0 4 a.a_row_fault a.d_row_fault ["n", "thing"] spRowF := by
  refine T.F_row_fault.ok sc_row_fault (fun vs H Q E h => ?_) (fun cdv A outer s H vs Q E hr h => ?_)
  · obtain ⟨n, p, xs, rs, rfl, _⟩ := h
    rfl
  · obtain ⟨n, p, xs, rs, rfl, ep, hA, hl, k⟩ := h
    refine ⟨_, (pss_one (ps_ret (pe_orT (pe_call (ok_form_fault T) (hr.mono (by decide)) (by rfl) T.g_form_fault T.F_form_fault.kp T.b_form_fault .nil pass0 (pa_cons (pv 1) (pa_cons (pe_glob (v := .int 400) (by rfl) T.g_MOST_ROWS.choose_spec ⟨_, rfl⟩) (pa_cons pe_int pa_nil)))) (pe_one (pe_call (ok_hand_fault T) (hr.mono (by decide)) (by rfl) T.g_hand_fault T.F_hand_fault.kp T.b_hand_fault .nil pass0 (pa_cons (pv 0) (pa_cons (pe_lc (own := [("row", 2)]) (g := gName 2) (tt := tYes) rfl sc_row_fault.nd (pi_seq (pv 1)) (blkOk_by (own := [("row", 2)]) (N := ["n", "thing", "row"]) (sc := defScope s_row_fault) (by decide +kernel)) (fun _ _ _ _ _ => (pg_name (i := 2) sc_row_fault.nd rfl (Or.inl rfl))) (fun _ _ _ _ _ => pts_nil) (fun _ _ _ _ _ => (pe_slice (sl_tupK (K := K) rfl) (pv 2) po_none (po_some pe_int)))) (pa_cons pe_int (pa_cons pe_int pa_nil))))))))), ?_⟩
    repeat walk_at "rd"
    refine r_orT ?_
    repeat walk_at "rd"
    refine ⟨p, 400, 2, xs, rs.map (·.2.2), rfl, ep, hA.rowsG, by rw [hA.1]; omega, fun v H1 s1 hv => ?_⟩
    refine r_orF hv (fun hn => k _ _ s1 (hv.or_left hn)) (fun hn => ?_)
    have ep1 := ep.keep s1
    repeat walk_at "rd"
    refine r_lcSeq (xs := xs) (fun L i H' => ∃ ys, H' L = some (.lst ys) ∧ PairsAt H' ys ((rs.take i).map fun l => (l.1, l.2.1)) ∧ Same H1 H') (by intro QA q; (repeat walk_at "rd"); exact q) ep1 (fun L hL => ⟨[], upd_same, by rw [List.take_zero]; exact PairsAt.nil, Same.new hL⟩) (fun L i H' hL ⟨_, _, _, s⟩ => s.seqK) ?_ ?_
    · rintro L i x H2 hL hx ⟨ys, e2, hP, s2⟩
      obtain ⟨t, l, rfl, hl1, et⟩ := (hA.keep (s1.trans s2)).get hx
      have hi9 := (List.getElem?_eq_some_iff.mp hl1).1
      repeat walk_at "rd"
      refine ⟨rfl, ?_⟩
      repeat walk_at "rd"
      refine r_slT (SqT.of et) (by simp [HT.sIx]) (fun q H3 nq s3 e3 => ?_)
      have e3 : H3 q = some (.tup [.int l.1, .int l.2.1]) := by rw [e3]; rfl
      have e2 := s3 _ _ e2
      refine ⟨_, e2, small1000 (by rw [hP.1, List.length_map, List.length_take]; omega), ys ++ [.ref q], upd_same, ?_, (s2.trans s3).over hL e2⟩
      rw [take_more hl1, List.map_append]
      exact ((hP.keep s3).snoc (g := (l.1, l.2.1)) e3).upd e2
    · rintro L H2 hL ⟨ys, e2, hP, s2⟩
      rw [hA.1, List.take_length] at hP
      repeat walk_at "rd"
      refine ⟨L, n, 0, 1, ys, _, rfl, e2, hP, fun v H3 s3 hv => k _ _ ((s1.trans s2).trans s3) (hv.or_right hn)⟩
theorem ok_fault (T : Txt K mg base a) : FnOk P w K mg base CX0 5 a.a_fault a.d_fault ["machine", "n", "thing"] (spFault a.c_Machine) := by
  refine T.F_fault.ok sc_fault (fun vs H Q E h => ?_) (fun cdv A outer s H vs Q E hr h => ?_)
  · obtain ⟨m, p, o, l, g, n, xs, rs, rfl, _⟩ := h
    rfl
  · obtain ⟨m, p, o, l, g, n, xs, rs, rfl, hm, g0, g9, hn, ep, hA, hl, k⟩ := h
    refine ⟨_, (pss_cons (ps_expr (pe_call (ok_check_count T) (hr.mono (by decide)) (by rfl) T.g_check_count T.F_check_count.kp T.b_check_count .nil pass0 (pa_cons (pv 1) (pa_cons pe_int (pa_cons (pe_glob (v := .int 100) (by rfl) T.g_MOST_PLANNED.choose_spec ⟨_, rfl⟩) pa_nil)))))
 (pss_one (ps_ret (pe_orT (pe_call (ok_row_fault T) (hr.mono (by decide)) (by rfl) T.g_row_fault T.F_row_fault.kp T.b_row_fault .nil pass0 (pa_cons (pv 1) (pa_cons (pv 2) pa_nil))) (pe_orT (pe_call (ok_telling_fault T) (hr.mono (by decide)) (by rfl) T.g_telling_fault T.F_telling_fault.kp T.b_telling_fault .nil pass0 (pa_cons (pv 2) (pa_cons (pe_lst (pa_cons pe_int pa_nil)) (pa_cons (pe_listRg rfl (by rfl) T.n_list (prg_1 (by rfl) T.n_range (pv 1))) (pa_cons (pe_fld (pv 0) rfl) pa_nil))))) (pe_one (pe_call (ok_near_fault T) (hr.mono (by decide)) (by rfl) T.g_near_fault T.F_near_fault.kp T.b_near_fault .nil pass0 (pa_cons pe_str (pa_cons (pe_lc (own := [("sender", 3), ("_", 4), ("start", 5)]) (g := gTup K 3 (gCons (gName 3) (gCons (gName 4) (gCons (gName 5) (gNil))))) (tt := tYes) rfl sc_fault.nd (pi_seq (pv 2)) (blkOk_by (own := [("sender", 3), ("_", 4), ("start", 5)]) (N := ["machine", "n", "thing", "sender", "_", "start"]) (sc := defScope s_fault) (by decide +kernel)) (fun _ _ _ _ _ => (pg_tupK (K := K) (n := 3) rfl (by rfl) (pgs_cons (pg_name (i := 3) sc_fault.nd rfl (Or.inl rfl)) (pgs_cons (pg_name (i := 4) sc_fault.nd rfl (Or.inl rfl)) (pgs_cons (pg_name (i := 5) sc_fault.nd rfl (Or.inl rfl)) pgs_nil))))) (fun _ _ _ _ _ => pts_nil) (fun _ _ _ _ _ => (pe_lst (pa_cons (pe_tup (pa_cons (pv 3) (pa_cons (pv 5) pa_nil))) pa_nil)))) (pa_cons (pe_fld (pv 0) rfl) pa_nil)))))))))), ?_⟩
    repeat walk_at "rd"
    refine ⟨n, 1, 100, rfl, hn.1, hn.2, ?_⟩
    repeat walk_at "rd"
    refine r_orT ?_
    repeat walk_at "rd"
    refine ⟨n, p, xs, rs, rfl, ep, hA, hl, fun v H1 s1 hv => ?_⟩
    refine r_orF hv (fun hn => k _ _ s1 (hv.or_left hn)) (fun hn1 => ?_)
    have k : ∀ v H', Same H H' → FltAt H' v ((tellingF rs [0] (upTo n) (2 * o + l)).or (nearF "gap" (gapMarks rs) (gapOf o g))) → Q v H' := fun v H' h1 h2 => k v H' h1 (h2.or_right hn1)
    have hh : handF n 0 1 (rs.map fun l => (l.1, l.2.1)) = none := by
      unfold rowF at hn1
      rw [Option.or_eq_none_iff] at hn1
      exact hn1.2
    have hsend : ∀ x, x ∈ rs → x.1 ∈ upTo n := fun x hx => by
      have := hand_none hh _ (List.mem_map.mpr ⟨x, hx, rfl⟩)
      exact mem_upTo.mpr ⟨this.1.1, this.1.2⟩
    have hm1 := hm.keep s1
    refine r_orT ?_
    repeat walk_at "rd"
    refine new_at (Nat.le_of_ble_eq_true rfl) (fun r H2 nr s2 er => ?_)
    repeat walk_at "rd"
    refine r_lstRg ?_
    repeat walk_at "rd"
    refine ⟨RgOk.of_le (by omega) (by omega) (by omega) (by omega), fun q nq => ?_⟩
    have s3 : Same H2 (upd H2 q (.lst (rgV 0 n))) := Same.new nq
    have eq : upd H2 q (.lst (rgV 0 n)) q = some (.lst ((upTo n).map V.int)) := by rw [upd_same, rg_is (by omega)]
    generalize upd H2 q (.lst (rgV 0 n)) = H3 at s3 eq ⊢
    have s13 := (s1.trans s2).trans s3
    obtain ⟨dm, hm3⟩ := (hm1.keep s2).keep s3
    repeat walk_at "rd"
    refine ⟨p, r, q, 2 * o + l, xs, rs, [0], upTo n, rfl, ep.keep s13, hA.keep s13, s3 _ _ er, eq, by decide, hl, hsend, fun v H4 s4 hv => ?_⟩
    have s14 := s13.trans s4
    refine r_orF hv (fun hn => k _ _ s14 (hv.or_left hn)) (fun hn2 => ?_)
    have ep4 := ep.keep s14
    repeat walk_at "rd"
    refine r_lcSeq (xs := xs) (fun L i H' => ∃ ys, H' L = some (.lst ys) ∧ MarksAt H' ys (gapMarks (rs.take i)) ∧ (∀ t, V.ref t ∈ ys → t ≠ L) ∧ Same H4 H') (by intro QA q; (repeat walk_at "rd"); exact q) ep4 (fun L hL => ⟨[], upd_same, ⟨rfl, fun i m h => by simp [gapMarks] at h⟩, (fun t ht => nomatch ht), Same.new hL⟩) (fun L i H' hL ⟨_, _, _, _, s⟩ => s.seqK) ?_ ?_
    · rintro L i x H5 hL hx ⟨ys, e5, hP, hne, s5⟩
      obtain ⟨t, y, rfl, hl1, et⟩ := (hA.keep (s14.trans s5)).get hx
      have hi9 := (List.getElem?_eq_some_iff.mp hl1).1
      repeat walk_at "rd"
      refine ⟨rfl, ?_⟩
      repeat walk_at "rd"
      refine new_at (Nat.le_of_ble_eq_true rfl) (fun b H6 nb s6 eb => ?_)
      repeat walk_at "rd"
      refine new_at (Nat.le_of_ble_eq_true rfl) (fun c H7 nc s7 ec => ?_)
      have s67 := s6.trans s7
      have e5 := s67 _ _ e5
      have hlen : ys.length = i := by
        rw [hP.1]
        unfold gapMarks
        rw [List.length_map, List.length_take]
        omega
      have ncL : c ≠ L := (ne_of_none (s6 _ _ (by assumption)) nc).symm
      refine ⟨_, e5, small1000 (by omega), ys ++ [.ref c], upd_same, ⟨?_, fun j m hm => ?_⟩, fun t' ht' => ?_, ((s5.trans s67)).over hL e5⟩
      · unfold gapMarks
        rw [List.length_append, List.length_singleton, List.length_map, List.length_take]
        omega
      · have keep : ∀ {z : Addr} {zs : List V}, z ≠ L → H7 z = some (.lst zs) → L2.upd H7 L (.lst (ys ++ [.ref c])) z = some (.lst zs) := fun nz h => (upd_ne nz).trans h
        have hP7 := hP.keep s67
        unfold gapMarks at hm
        rw [List.getElem?_map, List.getElem?_take] at hm
        by_cases cj : j < i
        · rw [if_pos (by omega)] at hm
          obtain ⟨t', zs, e1, e2, e3⟩ := hP7.2 j m (by unfold gapMarks; rw [List.getElem?_map, List.getElem?_take, if_pos cj]; exact hm)
          exact ⟨t', zs, by rw [List.getElem?_append_left (by omega)]; exact e1, keep (hne t' (List.mem_iff_getElem?.mpr ⟨j, e1⟩)) e2, e3.upd e5⟩
        · by_cases ce : j = i
          · subst ce
            rw [if_pos (by omega), hl1] at hm
            obtain rfl := Option.some.inj hm
            refine ⟨c, _, by rw [List.getElem?_append_right (by omega), hlen, Nat.sub_self]; rfl, keep ncL ec, ?_⟩
            exact (PairsAt.nil.snoc (g := (y.1, y.2.2)) (s7 _ _ eb)).upd e5
          · rw [if_neg (by omega)] at hm
            cases hm
      · rcases List.mem_append.mp ht' with h | h
        · exact hne t' h
        · rw [List.mem_singleton] at h
          rw [V.ref.inj h]
          exact ncL
    · rintro L H5 hL ⟨ys, e5, hP, hne, s5⟩
      rw [hA.1, List.take_length] at hP
      obtain ⟨dm, hm5⟩ := (hm.keep s14).keep s5
      repeat walk_at "rd"
      refine ⟨"gap", L, gapOf o g, ys, gapMarks rs, rfl, e5, hP, by unfold gapMarks; rw [List.length_map]; omega, fun m hm => ?_, g0, g9, fun v H6 s6 hv => k _ _ ((s14.trans s5).trans s6) (hv.or_right hn2)⟩
      obtain ⟨y, _, rfl⟩ := List.mem_map.mp hm
      exact Nat.le_of_ble_eq_true rfl
end

/-! ### a law's own fault of a plan -/
theorem inV_ints (z : Int) : ∀ xs : List Int, inV (.int z) (xs.map V.int) = decide (z ∈ xs)
  | [] => rfl
  | x :: xs => by
    have ih := inV_ints z xs
    unfold inV at ih ⊢
    rw [List.map_cons, List.any_cons, ih]
    show ((x == z) || decide (z ∈ xs)) = decide (z ∈ x :: xs)
    rw [Bool.eq_iff_iff, Bool.or_eq_true, decide_eq_true_eq, decide_eq_true_eq, List.mem_cons]
    constructor
    · rintro (h | h)
      · exact .inl (eq_of_beq h).symm
      · exact .inr h
    · rintro (h | h)
      · exact .inl (beq_iff_eq.mpr h.symm)
      · exact .inr h
theorem flat_ints : ∀ xs : List Int, (xs.map V.int).all flatV = true
  | [] => rfl
  | x :: xs => by rw [List.map_cons, List.all_cons, flat_ints xs]; rfl
theorem r_inS {K : PySem.W.Frag} {H : Hp} {Q : VK} {z : Int} {p : Addr} {xs : List Int} (h : H p = some (.lst (xs.map V.int))) (q : Q (.bl (decide (z ∈ xs))) H) : rIn K false (.int z) (.ref p) H Q := ⟨p, _, rfl, .inl (SqL.of h), rfl, flat_ints xs, by rw [inV_ints]; exact q⟩
theorem r_ninS {K : PySem.W.Frag} {H : Hp} {Q : VK} {z : Int} {p : Addr} {xs : List Int} (h : H p = some (.lst (xs.map V.int))) (q : Q (.bl (!decide (z ∈ xs))) H) : rIn K true (.int z) (.ref p) H Q := ⟨p, _, rfl, .inl (SqL.of h), rfl, flat_ints xs, by rw [inV_ints]; exact q⟩
theorem eqV_int {x y : Int} : eqV (.int x) (.int y) = decide (x = y) := by
  show (x == y) = _
  rw [Bool.eq_iff_iff, beq_iff_eq, decide_eq_true_eq]
theorem r_index {K : PySem.W.Frag} {H : Hp} {Q : VK} {z : Int} {p : Addr} {xs : List Int} (h : H p = some (.lst (xs.map V.int))) (hz : z ∈ xs) (q : ∀ j : Nat, xs[j]? = some z → (∀ m, m < j → xs.getD m 0 ≠ z) → Q (.int (j : Nat)) H) : rIndex K (.ref p) [.int z] H Q := by
  have hs : (first (fun i => decide (xs.getD i 0 = z)) xs.length) ≠ none := fun e => by
    obtain ⟨i, hi⟩ := List.mem_iff_getElem?.mp hz
    have := first_no e i (List.getElem?_eq_some_iff.mp hi).1
    rw [getD_of hi, decide_eq_true rfl] at this
    cases this
  obtain ⟨j, hj⟩ := Option.ne_none_iff_exists'.mp hs
  obtain ⟨h1, h2, h3⟩ := first_yes hj
  have hj2 : xs[j]? = some z := by
    have := of_decide_eq_true h2
    rw [getD_of (List.getElem?_eq_getElem h1)] at this
    rw [List.getElem?_eq_getElem h1, this]
  refine ⟨p, _, .int z, j, .int z, rfl, rfl, SqL.of h, rfl, flat_ints xs, by rw [List.getElem?_map, hj2]; rfl, by rw [eqV_int, decide_eq_true rfl], fun m z' hm hz' => ?_, q j hj2 fun m hm => of_decide_eq_false (h3 m hm)⟩
  obtain ⟨y, hy, rfl⟩ := int_of_get hz'
  have := h3 m hm
  rw [getD_of hy] at this
  rw [eqV_int]
  exact this
/-! what the law says is wrong -/
def againL (rs : List L3) : Flt := atIx "again" (first (fun i => decide ((recvs rs).getD i 0 ∈ (recvs rs).take i)) rs.length)
def nobodyL (n : Int) (rs : List L3) : Flt := Option.map (fun i : Nat => ("nobody", 1 + (i : Int))) (first (fun i => !decide ((1 + (i : Int)) ∈ recvs rs)) (n - 1).toNat)
def earlyL (D : Int) (rs : List L3) : Flt := atIx "early" (first (fun i => decide ((rs.getD i (0, 0, 0)).1 > 0 ∧ (rs.getD i (0, 0, 0)).2.2 < knownOf rs [] D (rs.getD i (0, 0, 0)).1)) rs.length)
def gapL (G : Int) (rs : List L3) : Flt := atIx "gap" (first (fun i => (rs.take i).any fun q => decide (q.1 = (rs.getD i (0, 0, 0)).1 ∧ -G < q.2.2 - (rs.getD i (0, 0, 0)).2.2 ∧ q.2.2 - (rs.getD i (0, 0, 0)).2.2 < G)) rs.length)
def lawF (D G n : Int) (rs : List L3) : Flt := (formS (rs.map (·.2.2))).or ((handF n 0 1 (rs.map fun l => (l.1, l.2.1))).or ((againL rs).or ((nobodyL n rs).or ((earlyL D rs).or (gapL G rs)))))
theorem or_congr {f f' g g' : Flt} (h : f = f') (k : f' = none → g = g') : f.or g = f'.or g' := by
  subst h
  cases f with
  | none => exact k rfl
  | some x => rfl
theorem or_assoc3 {a b c : Flt} : (a.or b).or c = a.or (b.or c) := Option.or_assoc
theorem form_none {ss : List Int} (h : formS ss = none) : ∀ s, s ∈ ss → 0 ≤ s ∧ s ≤ 1000000000000000 := by
  unfold formS atIx at h
  rw [Option.map_eq_none_iff] at h
  intro s hs
  obtain ⟨i, hi⟩ := List.mem_iff_getElem?.mp hs
  have := first_no h i (List.getElem?_eq_some_iff.mp hi).1
  rw [getD_of hi] at this
  unfold okStart at this
  simpa using this
theorem upTo_cons {n : Int} (h : 1 ≤ n) : upTo n = 0 :: (List.range (n - 1).toNat).map fun i : Nat => 1 + (i : Int) := by
  unfold upTo
  have e : n.toNat = (n - 1).toNat + 1 := by omega
  rw [e, List.range_succ_eq_map, List.map_cons, List.map_map]
  congr 1
  refine List.map_congr_left fun x _ => ?_
  show ((x + 1 : Nat) : Int) = 1 + (x : Int)
  omega
theorem find_first (P : Int → Bool) (m : Nat) : ((List.range m).map fun i : Nat => 1 + (i : Int)).find? P = Option.map (fun i : Nat => 1 + (i : Int)) (first (fun i => P (1 + (i : Int))) m) := by
  rw [List.find?_map]
  rfl
theorem known_nil {rs : List L3} {D s : Int} (h : s ≠ 0) : knownOf rs [0] D s = knownOf rs [] D s := by
  unfold knownOf
  rw [if_neg (by rw [List.mem_singleton]; exact h), if_neg (by simp)]
theorem flat_marks (rs : List L3) : (gapMarks rs).flatten = rs.map fun l => (l.1, l.2.2) := by
  unfold gapMarks
  induction rs with
  | nil => rfl
  | cons r rs ih => rw [List.map_cons, List.flatten_cons, ih]; rfl
/-- the law's fault is the program's -/
theorem law_fault {D G n : Int} {rs : List L3} (hn : 1 ≤ n) (hG : 0 < G) : lawF D G n rs = faultF D G n rs := by
  unfold lawF faultF rowF tellingF
  rw [or_assoc3]
  refine or_congr rfl fun hf => or_congr rfl fun hh => ?_
  rw [or_assoc3, or_assoc3]
  have hst : ∀ l, l ∈ rs → 0 ≤ l.2.2 := fun l hl => (form_none hf _ (List.mem_map.mpr ⟨l, hl, rfl⟩)).1
  have hhd : ∀ l, l ∈ rs → (0 ≤ l.1 ∧ l.1 < n) ∧ (1 ≤ l.2.1 ∧ l.2.1 < n) := fun l hl => by
    have := hand_none hh _ (List.mem_map.mpr ⟨l, hl, rfl⟩)
    exact ⟨this.1, this.2.1⟩
  have hr1 : ∀ k, k ∈ recvs rs → 1 ≤ k := fun k hk => by
    obtain ⟨l, hl, rfl⟩ := List.mem_map.mp hk
    exact (hhd l hl).2.1
  have hlr : (recvs rs).length = rs.length := List.length_map _
  refine or_congr ?_ fun ha => or_congr ?_ fun hb => or_congr ?_ fun he => ?_
  · unfold againL againF
    rw [hlr]
    congr 1
    refine first_congr fun i hi => ?_
    rw [decide_eq_decide, List.mem_append, List.mem_singleton]
    refine ⟨.inr, fun h => h.elim (fun e => ?_) id⟩
    have := hr1 _ (List.mem_iff_getElem?.mpr ⟨i, by rw [List.getElem?_eq_getElem (by omega)]⟩ : (recvs rs)[i]'(by omega) ∈ recvs rs)
    rw [getD_of (List.getElem?_eq_getElem (by omega))] at e
    omega
  · unfold nobodyL nobodyF
    rw [upTo_cons hn, List.find?_cons]
    have h0 : (!decide ((0 : Int) ∈ [0] ++ recvs rs)) = false := by
      rw [decide_eq_true (List.mem_append_left _ (List.mem_singleton.mpr rfl))]; rfl
    rw [h0]
    dsimp only
    rw [find_first, Option.map_map]
    rw [first_congr (P := fun i => !decide ((1 + (i : Int)) ∈ recvs rs)) (P' := fun i => !decide ((1 + (i : Int)) ∈ [0] ++ recvs rs)) fun i hi => by
      congr 1
      rw [decide_eq_decide, List.mem_append, List.mem_singleton]
      exact ⟨.inr, fun h => h.elim (fun e => absurd e (by omega)) id⟩]
    rfl
  · unfold earlyL earlyF
    congr 1
    refine first_congr fun i hi => ?_
    have hl := List.getElem?_eq_getElem hi
    rw [getD_of hl, decide_eq_decide]
    have hm : rs[i] ∈ rs := List.getElem_mem hi
    by_cases c : rs[i].1 = 0
    · have h1 := hst _ hm
      unfold knownOf
      rw [c, if_pos (List.mem_singleton.mpr rfl)]
      omega
    · have h1 := (hhd _ hm).1.1
      rw [known_nil c]
      exact ⟨fun h => h.2, fun h => ⟨by omega, h⟩⟩
  · unfold gapL nearF
    rw [if_neg (by omega)]
    have hgl : (gapMarks rs).length = rs.length := List.length_map _
    rw [hgl]
    congr 1
    refine first_congr fun i hi => ?_
    have hl := List.getElem?_eq_getElem hi
    have hm : (gapMarks rs).getD i [] = [(rs[i].1, rs[i].2.2)] := getD_of (by unfold gapMarks; rw [List.getElem?_map, hl]; rfl)
    unfold rowNear
    rw [getD_of hl, hm]
    show _ = ([0].any fun j => _)
    rw [List.any_cons, List.any_nil, Bool.or_false]
    rw [show ((gapMarks rs).take i).flatten = (rs.take i).map fun l => (l.1, l.2.2) by rw [← flat_marks]; unfold gapMarks; rw [List.map_take]]
    rw [List.take_zero, List.append_nil, show ([(rs[i].1, rs[i].2.2)] : List (Int × Int)).getD 0 (0, 0) = (rs[i].1, rs[i].2.2) from rfl]
    unfold nearP near1
    rw [List.any_map]
    congr 1
    funext q
    show decide _ = decide _
    rw [decide_eq_decide]
    dsimp only
    omega
def spLawRow : Sp := fun vs H Q _ => ∃ (t : Addr) (l : L3), vs = [.ref t] ∧ H t = some (.tup [.int l.1, .int l.2.1, .int l.2.2]) ∧ ∀ H', Same H H' → Q (.bl (okStart l.2.2)) H'
def spLawFault : Sp := fun vs H Q _ => ∃ (p : Addr) (D G n : Int) (xs : List V) (rs : List L3), vs = [.int D, .int G, .int n, .ref p] ∧ H p = some (.lst xs) ∧ TrisAt H xs rs ∧ rs.length ≤ 400 ∧ 1 ≤ n ∧ n ≤ 1000 ∧ ∀ v H', Same H H' → FltAt H' v (lawF D G n rs) → Q v H'
def spSameF : Sp := fun vs H Q _ => ∃ (u v : V) (f : Flt), vs = [u, v] ∧ FltAt H u f ∧ FltAt H v f ∧ Q (.bl true) H

/-! ### right plans, and plans changed -/
structure Right (D G n : Int) (rs : List L3) : Prop where
  hands : ∀ l, l ∈ rs → 0 ≤ l.1 ∧ l.1 < l.2.1 ∧ 1 ≤ l.2.1 ∧ l.2.1 < n
  start : ∀ l, l ∈ rs → 0 ≤ l.2.2 ∧ l.2.2 ≤ l.2.1 * (D + G + 3)
  nodup : (recvs rs).Nodup
  all : ∀ x : Int, 1 ≤ x → x < n → x ∈ recvs rs
  order : ∀ l m, l ∈ rs → m ∈ rs → l.2.1 < m.2.1 → l.2.2 + D + G ≤ m.2.2
theorem Right.perm {D G n : Int} {rs ss : List L3} (h : Right D G n rs) (p : rs.Perm ss) : Right D G n ss where
  hands := fun l hl => h.hands l (p.mem_iff.mpr hl)
  start := fun l hl => h.start l (p.mem_iff.mpr hl)
  nodup := List.Perm.nodup_iff (show (recvs rs).Perm (recvs ss) from p.map _) |>.mp h.nodup
  all := fun x h1 h2 => (List.Perm.mem_iff (show (recvs rs).Perm (recvs ss) from p.map _)).mp (h.all x h1 h2)
  order := fun l m hl hm => h.order l m (p.mem_iff.mpr hl) (p.mem_iff.mpr hm)
theorem form_ok {ss : List Int} (h : ∀ s, s ∈ ss → 0 ≤ s ∧ s ≤ 1000000000000000) : formS ss = none := by
  unfold formS
  rw [first_none fun i hi => ?_]
  · rfl
  · rw [getD_of (List.getElem?_eq_getElem hi)]
    unfold okStart
    rw [decide_eq_true (h _ (List.getElem_mem hi))]
    rfl
theorem hand_ok {n fs fr : Int} {ps : List (Int × Int)} (h : ∀ g, g ∈ ps → (fs ≤ g.1 ∧ g.1 < n) ∧ (fr ≤ g.2 ∧ g.2 < n) ∧ g.1 ≠ g.2) : handF n fs fr ps = none := by
  unfold handF
  rw [first_none fun i hi => ?_]
  · rfl
  · rw [getD_of (List.getElem?_eq_getElem hi)]
    unfold badHand
    rw [decide_eq_true (h _ (List.getElem_mem hi))]
    rfl
theorem again_ok {rs : List L3} (h : (recvs rs).Nodup) : againL rs = none := by
  unfold againL
  rw [first_none fun i hi => ?_]
  · rfl
  · have hi' : i < (recvs rs).length := by rw [show (recvs rs).length = rs.length from List.length_map _]; exact hi
    rw [getD_of (List.getElem?_eq_getElem hi')]
    refine decide_eq_false fun z => ?_
    obtain ⟨j, hj⟩ := List.mem_iff_getElem?.mp z
    have hji : j < i := by
      have := (List.getElem?_eq_some_iff.mp hj).1
      rw [List.length_take] at this
      omega
    rw [List.getElem?_take, if_pos hji] at hj
    obtain ⟨h1, h2⟩ := List.getElem?_eq_some_iff.mp hj
    exact (List.pairwise_iff_getElem.mp h) j i h1 hi' hji h2
theorem again_nodup {rs : List L3} (h : againL rs = none) : (recvs rs).Nodup := by
  unfold againL atIx at h
  rw [Option.map_eq_none_iff] at h
  have h := first_no h
  unfold List.Nodup
  rw [List.pairwise_iff_getElem]
  intro i j hi hj hij e
  have := h j (by rw [show (recvs rs).length = rs.length from List.length_map _] at hj; exact hj)
  rw [getD_of (List.getElem?_eq_getElem hj), decide_eq_false_iff_not] at this
  refine this ?_
  rw [← e]
  exact List.mem_iff_getElem?.mpr ⟨i, by rw [List.getElem?_take, if_pos hij, List.getElem?_eq_getElem hi]⟩
theorem nobody_ok {n : Int} {rs : List L3} (h : ∀ x : Int, 1 ≤ x → x < n → x ∈ recvs rs) : nobodyL n rs = none := by
  unfold nobodyL
  rw [first_none fun i hi => ?_]
  · rfl
  · rw [decide_eq_true (h _ (by omega) (by omega))]
    rfl
theorem nobody_all {n : Int} {rs : List L3} (h : nobodyL n rs = none) : ∀ x : Int, 1 ≤ x → x < n → x ∈ recvs rs := fun x h1 h2 => by
  unfold nobodyL at h
  rw [Option.map_eq_none_iff] at h
  have := first_no h (x - 1).toNat (by omega)
  rw [show 1 + (((x - 1).toNat : Nat) : Int) = x by omega] at this
  simpa using this
theorem known_mem {rs : List L3} {D s : Int} (h : s ∈ recvs rs) : ∃ m, m ∈ rs ∧ m.2.1 = s ∧ knownOf rs [] D s = m.2.2 + D := by
  have hs : (rs.find? fun l => decide (l.2.1 = s)).isSome = true := by
    rw [List.find?_isSome]
    obtain ⟨l, hl, rfl⟩ := List.mem_map.mp h
    exact ⟨l, hl, decide_eq_true rfl⟩
  obtain ⟨m, hm⟩ := Option.isSome_iff_exists.mp hs
  refine ⟨m, List.mem_of_find?_eq_some hm, (by have := List.find?_some hm; exact of_decide_eq_true this), ?_⟩
  unfold knownOf
  rw [if_neg (by simp), hm]
  rfl
theorem Right.none {D G n : Int} {rs : List L3} (h : Right D G n rs) (hD : 1 ≤ D ∧ D ≤ 3000000000) (hG : 1 ≤ G ∧ G ≤ 1000000000) (hn : 1 ≤ n ∧ n ≤ 1000) : lawF D G n rs = none := by
  have h1 : formS (rs.map (·.2.2)) = Option.none := form_ok fun s hs => by
    obtain ⟨l, hl, rfl⟩ := List.mem_map.mp hs
    have a := h.start l hl
    have b := h.hands l hl
    have : l.2.1 * (D + G + 3) ≤ 1000 * 4000000003 := Int.mul_le_mul (by omega) (by omega) (by omega) (by omega)
    omega
  have h2 : handF n 0 1 (rs.map fun l => (l.1, l.2.1)) = Option.none := hand_ok fun g hg => by
    obtain ⟨l, hl, rfl⟩ := List.mem_map.mp hg
    have b := h.hands l hl
    exact ⟨⟨b.1, by show l.1 < n; omega⟩, ⟨b.2.2.1, b.2.2.2⟩, by show l.1 ≠ l.2.1; omega⟩
  have h3 := again_ok h.nodup
  have h4 := nobody_ok h.all
  have h5 : earlyL D rs = Option.none := by
    unfold earlyL
    rw [first_none fun i hi => ?_]
    · rfl
    · have hl := List.getElem?_eq_getElem hi
      rw [getD_of hl]
      have hm : rs[i] ∈ rs := List.getElem_mem hi
      refine decide_eq_false fun ⟨c1, c2⟩ => ?_
      have b := h.hands _ hm
      obtain ⟨m, hm2, e1, e2⟩ := known_mem (D := D) (h.all rs[i].1 (by omega) (by omega))
      rw [e2] at c2
      have := h.order m _ hm2 hm (by omega)
      omega
  have h6 : gapL G rs = Option.none := by
    unfold gapL
    rw [first_none fun i hi => ?_]
    · rfl
    · have hl := List.getElem?_eq_getElem hi
      rw [getD_of hl, List.any_eq_false]
      intro q hq he
      obtain ⟨e1, e2, e3⟩ := of_decide_eq_true he
      obtain ⟨j, hj⟩ := List.mem_iff_getElem?.mp hq
      have hji : j < i := by
        have := (List.getElem?_eq_some_iff.mp hj).1
        rw [List.length_take] at this
        omega
      rw [List.getElem?_take, if_pos hji] at hj
      have hq' : q ∈ rs := List.mem_iff_getElem?.mpr ⟨j, hj⟩
      have hm : rs[i] ∈ rs := List.getElem_mem hi
      have hne : q.2.1 ≠ rs[i].2.1 := fun e => by
        have g1 : (recvs rs)[j]? = some q.2.1 := by unfold recvs; rw [List.getElem?_map, hj]; rfl
        have g2 : (recvs rs)[i]? = some rs[i].2.1 := by unfold recvs; rw [List.getElem?_map, hl]; rfl
        obtain ⟨k1, k2⟩ := List.getElem?_eq_some_iff.mp g1
        obtain ⟨k3, k4⟩ := List.getElem?_eq_some_iff.mp g2
        exact (List.pairwise_iff_getElem.mp h.nodup) j i k1 k3 hji (by rw [k2, k4]; exact e)
      rcases Int.lt_or_gt_of_ne hne with c | c
      · have := h.order q _ hq' hm c
        omega
      · have := h.order _ q hm hq' c
        omega
  unfold lawF
  rw [h1, h2, h3, h4, h5, h6]
  rfl
def Told (rs : List L3) : Prop := ∀ l, l ∈ rs → l.1 > 0 → ∃ m, m ∈ rs ∧ m.2.1 = l.1
theorem Right.told {D G n : Int} {rs : List L3} (h : Right D G n rs) : Told rs := fun l hl h0 => by
  have b := h.hands l hl
  obtain ⟨m, hm, e⟩ := List.mem_map.mp (h.all l.1 (by omega) (by omega))
  exact ⟨m, hm, e⟩
structure Chg (kind n D G : Int) (rs ss : List L3) : Prop where
  k0 : kind = 0 → ∃ (i : Nat) (l : L3) (b : Int), rs[i]? = some l ∧ ss = rs.set i (l.1, l.2.1, b) ∧ okStart b = false
  k1 : kind = 1 → ∃ (i : Nat) (l : L3) (g : Int × Int), rs[i]? = some l ∧ ss = rs.set i (g.1, g.2, l.2.2) ∧ badHand n 0 1 g = true
  k2 : kind = 2 → ∃ (i : Nat) (l : L3), l ∈ rs ∧ ss = rs.take i ++ [(l.1, l.2.1, l.2.2 + 3 * (D + G))] ++ rs.drop i
  k3 : kind = 3 → ∃ (i : Nat) (l : L3), rs[i]? = some l ∧ ss = rs.take i ++ rs.drop (i + 1)
  k4 : 4 ≤ kind → Told rs → Told ss
  len : ss.length ≤ rs.length + 1
def wordOf (kind : Int) : Str := if kind = 0 then "form" else if kind = 1 then "hand" else if kind = 2 then "again" else "nobody"
theorem atIx_word {w : Str} {o : Option Nat} (h : atIx w o ≠ none) : ∃ i, atIx w o = some (w, i) := by
  cases o with
  | none => exact absurd rfl h
  | some i => exact ⟨_, rfl⟩
theorem nobody_word {n : Int} {rs : List L3} (h : nobodyL n rs ≠ none) : ∃ i : Int, nobodyL n rs = some (("nobody" : Str), i) := by
  unfold nobodyL at h ⊢
  cases e : first (fun i => !decide ((1 + (i : Int)) ∈ recvs rs)) (n - 1).toNat with
  | none => rw [e] at h; exact absurd rfl h
  | some i => exact ⟨_, rfl⟩
/-- the fault of a plan changed in one way -/
theorem chg_word {kind D G n : Int} {rs ss : List L3} (h : Right D G n rs) (c : Chg kind n D G rs ss) (hk : 0 ≤ kind ∧ kind < 4) (hD : 1 ≤ D ∧ D ≤ 3000000000) (hG : 1 ≤ G ∧ G ≤ 1000000000) (hn : 1 ≤ n ∧ n ≤ 1000) : ∃ i, lawF D G n ss = some (wordOf kind, i) := by
  have hst : ∀ l, l ∈ rs → 0 ≤ l.2.2 ∧ l.2.2 ≤ 4000000003000 := fun l hl => by
    have a := h.start l hl
    have b := h.hands l hl
    have : l.2.1 * (D + G + 3) ≤ 1000 * 4000000003 := Int.mul_le_mul (by omega) (by omega) (by omega) (by omega)
    omega
  have hgood : ∀ l, l ∈ rs → (0 ≤ l.1 ∧ l.1 < n) ∧ (1 ≤ l.2.1 ∧ l.2.1 < n) ∧ l.1 ≠ l.2.1 := fun l hl => by
    have b := h.hands l hl
    exact ⟨⟨b.1, by omega⟩, ⟨b.2.2.1, b.2.2.2⟩, by omega⟩
  have form : (∀ l, l ∈ ss → 0 ≤ l.2.2 ∧ l.2.2 ≤ 1000000000000000) → formS (ss.map (·.2.2)) = none := fun q => form_ok fun s hs => by
    obtain ⟨l, hl, rfl⟩ := List.mem_map.mp hs
    exact q l hl
  have hand : (∀ l, l ∈ ss → (0 ≤ l.1 ∧ l.1 < n) ∧ (1 ≤ l.2.1 ∧ l.2.1 < n) ∧ l.1 ≠ l.2.1) → handF n 0 1 (ss.map fun l => (l.1, l.2.1)) = none := fun q => hand_ok fun g hg => by
    obtain ⟨l, hl, rfl⟩ := List.mem_map.mp hg
    exact q l hl
  have hcases : kind = 0 ∨ kind = 1 ∨ kind = 2 ∨ kind = 3 := by omega
  unfold lawF
  rcases hcases with rfl | rfl | rfl | rfl
  · obtain ⟨i, l, b, hl, rfl, hb⟩ := c.k0 rfl
    have hi := (List.getElem?_eq_some_iff.mp hl).1
    have hne : formS ((rs.set i (l.1, l.2.1, b)).map (·.2.2)) ≠ none := fun z => by
      have := form_none z b (List.mem_map.mpr ⟨(l.1, l.2.1, b), List.mem_set hi _, rfl⟩)
      unfold okStart at hb
      rw [decide_eq_true this] at hb
      cases hb
    obtain ⟨j, hj⟩ := atIx_word hne
    refine ⟨j, ?_⟩
    have hj : formS ((rs.set i (l.1, l.2.1, b)).map (·.2.2)) = some (("form" : Str), j) := hj
    rw [hj]
    rfl
  · obtain ⟨i, l, g, hl, rfl, hb⟩ := c.k1 rfl
    have hi := (List.getElem?_eq_some_iff.mp hl).1
    have hlm := List.mem_iff_getElem?.mpr ⟨i, hl⟩
    rw [form fun x hx => by
      rcases List.mem_or_eq_of_mem_set hx with hx | rfl
      · have := hst x hx; omega
      · have := hst l hlm; dsimp only; omega]
    have hne : handF n 0 1 ((rs.set i (g.1, g.2, l.2.2)).map fun l => (l.1, l.2.1)) ≠ none := fun z => by
      have := hand_none z (g.1, g.2) (List.mem_map.mpr ⟨(g.1, g.2, l.2.2), List.mem_set hi _, rfl⟩)
      unfold badHand at hb
      rw [decide_eq_true this] at hb
      cases hb
    obtain ⟨j, hj⟩ := atIx_word hne
    have hj : handF n 0 1 ((rs.set i (g.1, g.2, l.2.2)).map fun l => (l.1, l.2.1)) = some (("hand" : Str), j) := hj
    exact ⟨j, by rw [hj]; rfl⟩
  · obtain ⟨i, l, hlm, hss⟩ := c.k2 rfl
    have hmem : ∀ x, x ∈ ss → x ∈ rs ∨ x = (l.1, l.2.1, l.2.2 + 3 * (D + G)) := fun x hx => by
      rw [hss, List.append_assoc] at hx
      rcases List.mem_append.mp hx with hx | hx
      · exact .inl (List.mem_of_mem_take hx)
      · rcases List.mem_append.mp hx with hx | hx
        · exact .inr (List.mem_singleton.mp hx)
        · exact .inl (List.mem_of_mem_drop hx)
    rw [form fun x hx => by
      rcases hmem x hx with hx | rfl
      · have := hst x hx; omega
      · have := hst l hlm; dsimp only; omega]
    rw [hand fun x hx => by
      rcases hmem x hx with hx | rfl
      · exact hgood x hx
      · exact hgood l hlm]
    have hne : againL ss ≠ none := fun z => by
      have hnd := again_nodup z
      unfold recvs at hnd
      rw [hss, List.append_assoc, List.map_append, List.map_append] at hnd
      have hin : l.2.1 ∈ (rs.take i).map (·.2.1) ++ (rs.drop i).map (·.2.1) := by
        rw [← List.map_append, List.take_append_drop]
        exact List.mem_map.mpr ⟨l, hlm, rfl⟩
      have hp : ((rs.take i).map (·.2.1) ++ ([(l.1, l.2.1, l.2.2 + 3 * (D + G))].map (·.2.1) ++ (rs.drop i).map (·.2.1))).Perm (l.2.1 :: ((rs.take i).map (·.2.1) ++ (rs.drop i).map (·.2.1))) := List.perm_middle
      have := (hp.nodup_iff.mp hnd)
      exact (List.nodup_cons.mp this).1 hin
    obtain ⟨j, hj⟩ := atIx_word hne
    have hj : againL ss = some (("again" : Str), j) := hj
    exact ⟨j, by rw [hj]; rfl⟩
  · obtain ⟨i, l, hl, hss⟩ := c.k3 rfl
    have hlm := List.mem_iff_getElem?.mpr ⟨i, hl⟩
    have hi := (List.getElem?_eq_some_iff.mp hl).1
    have hp : rs.Perm (l :: ss) := by
      have e : rs = rs.take i ++ l :: rs.drop (i + 1) := by
        conv => lhs; rw [← List.take_append_drop i rs]
        rw [List.drop_eq_getElem_cons hi, (List.getElem?_eq_some_iff.mp hl).2]
      rw [hss]
      conv => lhs; rw [e]
      exact List.perm_middle
    have hmem : ∀ x, x ∈ ss → x ∈ rs := fun x hx => hp.mem_iff.mpr (List.mem_cons_of_mem _ hx)
    have hnd : (l.2.1 :: recvs ss).Nodup := List.Perm.nodup_iff (show (recvs rs).Perm (l.2.1 :: recvs ss) from hp.map _) |>.mp h.nodup
    rw [form fun x hx => by have := hst x (hmem x hx); omega, hand fun x hx => hgood x (hmem x hx), again_ok (List.nodup_cons.mp hnd).2]
    have hne : nobodyL n ss ≠ none := fun z => by
      have b := h.hands l hlm
      exact (List.nodup_cons.mp hnd).1 (nobody_all z l.2.1 b.2.2.1 b.2.2.2)
    obtain ⟨j, hj⟩ := nobody_word hne
    exact ⟨j, by rw [hj]; rfl⟩

/-! ### plans drawn by a law: grown row by row -/
/-- how a plan grows: who knows, how often each has sent, from when each is free, the rows in the order in which they were made -/
inductive Hist (D G : Int) : List Int → (Int → Int) → (Int → Int) → List L3 → Prop
  | first : Hist D G [0] (fun _ => 0) (fun _ => 0) []
  | step {T : List Int} {sn fr : Int → Int} {ss : List L3} {x y wt : Int} : Hist D G T sn fr ss → x ∈ T → y ∉ T → 0 ≤ wt → Hist D G (T ++ [y]) (fun z => if z = y then 0 else if z = x then sn x + 1 else sn z) (fun z => if z = y then fr x + wt + D else if z = x then fr x + wt + G else fr z) (ss ++ [(x, y, fr x + wt)])
structure Grow (D G n most : Int) (k : Nat) (R T : List Int) (sn fr : Int → Int) (rs : List L3) : Prop where
  lenR : (R.length : Int) + k = n - 1
  lenT : T.length = k + 1
  lenL : rs.length = k
  inR : ∀ x, x ∈ R → 1 ≤ x ∧ x < n
  inT : ∀ x, x ∈ T → 0 ≤ x ∧ x < n
  cover : ∀ x : Int, 0 ≤ x → x < n → x ∈ R ∨ x ∈ T
  apart : ∀ x, x ∈ R → x ∉ T
  nodR : R.Nodup
  told : ∀ x, x ∈ recvs rs ↔ x ∈ T ∧ x ≠ 0
  nodL : (recvs rs).Nodup
  send : ∀ l, l ∈ rs → l.1 ∈ T ∧ l.1 ≠ l.2.1
  free0 : ∀ x, x ∈ T → 0 ≤ fr x ∧ fr x ≤ (k : Int) * (4 * (D + G))
  free1 : ∀ l, l ∈ rs → l.2.2 + G ≤ fr l.1
  freeK : ∀ l, l ∈ rs → l.2.2 + D ≤ fr l.2.1
  start : ∀ l, l ∈ rs → 0 ≤ l.2.2 ∧ l.2.2 ≤ (k : Int) * (4 * (D + G))
  known : ∀ l, l ∈ rs → l.1 ≠ 0 → ∃ m, m ∈ rs ∧ m.2.1 = l.1 ∧ m.2.2 + D ≤ l.2.2
  gaps : ∀ l m, l ∈ rs → m ∈ rs → l.1 = m.1 → l.2.1 ≠ m.2.1 → l.2.2 + G ≤ m.2.2 ∨ m.2.2 + G ≤ l.2.2
  turns : ∀ x, x ∈ T → sn x = ((rs.countP fun l => decide (l.1 = x) : Nat) : Int) ∧ sn x ≤ most
  idle : ∃ x, x ∈ T ∧ sn x = 0
  hist : ∃ ss, Hist D G T sn fr ss ∧ ss.Perm rs
theorem recvs_mem {rs : List L3} {l : L3} (h : l ∈ rs) : l.2.1 ∈ recvs rs := List.mem_map.mpr ⟨l, h, rfl⟩
theorem Grow.perm {D G n most : Int} {k : Nat} {R T : List Int} {sn fr : Int → Int} {rs ss : List L3} (h : Grow D G n most k R T sn fr rs) (p : rs.Perm ss) : Grow D G n most k R T sn fr ss :=
  { h with
    lenL := by rw [← p.length_eq]; exact h.lenL
    told := fun x => ((List.Perm.mem_iff (show (recvs rs).Perm (recvs ss) from p.map _)).symm).trans (h.told x)
    nodL := List.Perm.nodup_iff (show (recvs rs).Perm (recvs ss) from p.map _) |>.mp h.nodL
    send := fun l hl => h.send l (p.mem_iff.mpr hl)
    free1 := fun l hl => h.free1 l (p.mem_iff.mpr hl)
    freeK := fun l hl => h.freeK l (p.mem_iff.mpr hl)
    start := fun l hl => h.start l (p.mem_iff.mpr hl)
    known := fun l hl h0 => let ⟨m, hm, e⟩ := h.known l (p.mem_iff.mpr hl) h0; ⟨m, p.mem_iff.mp hm, e⟩
    gaps := fun l m hl hm => h.gaps l m (p.mem_iff.mpr hl) (p.mem_iff.mpr hm)
    turns := fun x hx => by rw [← p.countP_eq]; exact h.turns x hx
    hist := let ⟨us, a, b⟩ := h.hist; ⟨us, a, b.trans p⟩ }
theorem Grow.first {D G n most : Int} (hn : 1 ≤ n) (hm : 0 ≤ most) (R : List Int) (hR : (R.length : Int) = n - 1) (hi : ∀ x, x ∈ R ↔ 1 ≤ x ∧ x < n) (nd : R.Nodup) : Grow D G n most 0 R [0] (fun _ => 0) (fun _ => 0) [] where
  lenR := by rw [hR]; omega
  lenT := rfl
  lenL := rfl
  inR := fun x hx => (hi x).mp hx
  inT := fun x hx => by rw [List.mem_singleton] at hx; omega
  cover := fun x h0 h1 => by
    by_cases c : x = 0
    · exact .inr (by rw [c]; exact List.mem_singleton.mpr rfl)
    · exact .inl ((hi x).mpr (by omega))
  apart := fun x hx z => by rw [List.mem_singleton] at z; have := (hi x).mp hx; omega
  nodR := nd
  told := fun x => ⟨(fun z => nomatch z), fun ⟨z, e⟩ => absurd (List.mem_singleton.mp z) e⟩
  nodL := List.nodup_nil
  send := fun l hl => nomatch hl
  free0 := fun x hx => ⟨Int.le_refl _, by rw [show ((0 : Nat) : Int) = 0 from rfl, Int.zero_mul]; exact Int.le_refl _⟩
  free1 := fun l hl => nomatch hl
  freeK := fun l hl => nomatch hl
  start := fun l hl => nomatch hl
  known := fun l hl => nomatch hl
  gaps := fun l m hl => nomatch hl
  turns := fun x hx => ⟨rfl, hm⟩
  idle := ⟨0, List.mem_singleton.mpr rfl, rfl⟩
  hist := ⟨[], .first, List.Perm.refl _⟩
theorem Grow.step {D G n most : Int} {k i : Nat} {R T : List Int} {sn fr : Int → Int} {rs : List L3} {x y wt : Int} (h : Grow D G n most k R T sn fr rs) (hD : 0 ≤ D) (hG : 0 ≤ G) (hy : R[i]? = some y) (hx : x ∈ T) (hs : sn x < most) (w0 : 0 ≤ wt) (w9 : wt ≤ 3 * (D + G)) (s0 : 0 ≤ sn x) :
    Grow D G n most (k + 1) (R.eraseIdx i) (T ++ [y]) (fun z => if z = y then 0 else if z = x then sn x + 1 else sn z) (fun z => if z = y then fr x + wt + D else if z = x then fr x + wt + G else fr z) (rs ++ [(x, y, fr x + wt)]) := by
  have hyR : y ∈ R := List.mem_iff_getElem?.mpr ⟨i, hy⟩
  have hyT := h.apart y hyR
  have yb := h.inR y hyR
  have xy : x ≠ y := fun e => hyT (e ▸ hx)
  have fx := h.free0 x hx
  have hk : ((k + 1 : Nat) : Int) * (4 * (D + G)) = (k : Int) * (4 * (D + G)) + 4 * (D + G) := by rw [Int.natCast_add, Int.add_mul]; omega
  have hny : ∀ l, l ∈ rs → l.1 ≠ y := fun l hl e => hyT (e ▸ (h.send l hl).1)
  have hnr : ∀ l, l ∈ rs → l.2.1 ≠ y := fun l hl e => hyT (e ▸ ((h.told _).mp (recvs_mem hl)).1)
  have hil := (List.getElem?_eq_some_iff.mp hy).1
  have rc : recvs (rs ++ [(x, y, fr x + wt)]) = recvs rs ++ [y] := by unfold recvs; rw [List.map_append]; rfl
  refine ⟨?_, ?_, ?_, ?_, ?_, ?_, ?_, ?_, ?_, ?_, ?_, ?_, ?_, ?_, ?_, ?_, ?_, ?_, ?_, ?_⟩
  · rw [List.length_eraseIdx_of_lt hil]; have := h.lenR; omega
  · rw [List.length_append, h.lenT]; rfl
  · rw [List.length_append, h.lenL]; rfl
  · exact fun z hz => h.inR z (List.mem_of_mem_eraseIdx hz)
  · intro z hz
    rcases List.mem_append.mp hz with hz | hz
    · exact h.inT z hz
    · rw [List.mem_singleton] at hz; omega
  · intro z h0 h1
    by_cases c : z = y
    · exact .inr (List.mem_append_right _ (List.mem_singleton.mpr c))
    · rcases h.cover z h0 h1 with q | q
      · left
        obtain ⟨j, hj⟩ := List.mem_iff_getElem?.mp q
        have hji : j ≠ i := fun e => by rw [e, hy] at hj; exact c (Option.some.inj hj).symm
        rw [List.mem_iff_getElem?]
        by_cases lt : j < i
        · exact ⟨j, by rw [List.getElem?_eraseIdx_of_lt lt]; exact hj⟩
        · exact ⟨j - 1, by rw [List.getElem?_eraseIdx_of_ge (by omega), show j - 1 + 1 = j by omega]; exact hj⟩
      · exact .inr (List.mem_append_left _ q)
  · intro z hz q
    rcases List.mem_append.mp q with q | q
    · exact h.apart z (List.mem_of_mem_eraseIdx hz) q
    · rw [List.mem_singleton] at q
      subst q
      obtain ⟨j, hj⟩ := List.mem_iff_getElem?.mp hz
      have nd := List.pairwise_iff_getElem.mp h.nodR
      have hRi : R[i] = z := by rw [List.getElem?_eq_getElem hil] at hy; exact Option.some.inj hy
      by_cases lt : j < i
      · rw [List.getElem?_eraseIdx_of_lt lt] at hj
        obtain ⟨a1, a2⟩ := List.getElem?_eq_some_iff.mp hj
        exact nd j i a1 hil lt (by rw [a2, hRi])
      · rw [List.getElem?_eraseIdx_of_ge (by omega)] at hj
        obtain ⟨a1, a2⟩ := List.getElem?_eq_some_iff.mp hj
        exact nd i (j + 1) hil a1 (by omega) (by rw [a2, hRi])
  · exact List.Nodup.sublist (List.eraseIdx_sublist _ _) h.nodR
  · intro z
    rw [rc, List.mem_append, List.mem_append, List.mem_singleton, h.told z]
    constructor
    · rintro (⟨q, e⟩ | q)
      · exact ⟨.inl q, e⟩
      · exact ⟨.inr q, by omega⟩
    · rintro ⟨q | q, e⟩
      · exact .inl ⟨q, e⟩
      · exact .inr q
  · rw [rc]
    have hp : (recvs rs ++ [y]).Perm (y :: recvs rs) := List.perm_append_comm
    exact hp.nodup_iff.mpr (List.nodup_cons.mpr ⟨fun z => hyT ((h.told y).mp z).1, h.nodL⟩)
  · intro l hl
    rcases List.mem_append.mp hl with hl | hl
    · exact ⟨List.mem_append_left _ (h.send l hl).1, (h.send l hl).2⟩
    · rw [List.mem_singleton] at hl; subst hl; exact ⟨List.mem_append_left _ hx, xy⟩
  · intro z hz
    try dsimp only
    rw [hk]
    split
    · omega
    · rename_i c
      split
      · omega
      · rcases List.mem_append.mp hz with hz | hz
        · have := h.free0 z hz; omega
        · exact absurd (List.mem_singleton.mp hz) c
  · intro l hl
    try dsimp only
    rcases List.mem_append.mp hl with hl | hl
    · rw [if_neg (hny l hl)]
      have := h.free1 l hl
      split
      · rename_i c; rw [c] at this; omega
      · exact this
    · rw [List.mem_singleton] at hl; subst hl; rw [if_neg xy, if_pos rfl]; exact Int.le_refl _
  · intro l hl
    try dsimp only
    rcases List.mem_append.mp hl with hl | hl
    · rw [if_neg (hnr l hl)]
      have := h.freeK l hl
      split
      · rename_i c; rw [c] at this; omega
      · exact this
    · rw [List.mem_singleton] at hl; subst hl; rw [if_pos rfl]; exact Int.le_refl _
  · intro l hl
    rw [hk]
    rcases List.mem_append.mp hl with hl | hl
    · have := h.start l hl; omega
    · rw [List.mem_singleton] at hl; subst hl; dsimp only; omega
  · intro l hl h0
    rcases List.mem_append.mp hl with hl | hl
    · obtain ⟨m, hm, e⟩ := h.known l hl h0
      exact ⟨m, List.mem_append_left _ hm, e⟩
    · rw [List.mem_singleton] at hl; subst hl
      obtain ⟨m, hm, e⟩ := List.mem_map.mp ((h.told x).mpr ⟨hx, h0⟩)
      have := h.freeK m hm
      try dsimp only at e
      rw [e] at this
      exact ⟨m, List.mem_append_left _ hm, e, by dsimp only; omega⟩
  · intro l m hl hm e ne
    rcases List.mem_append.mp hl with hl | hl
    · rcases List.mem_append.mp hm with hm | hm
      · exact h.gaps l m hl hm e ne
      · rw [List.mem_singleton] at hm; subst hm
        have := h.free1 l hl
        rw [e] at this
        exact .inl (by dsimp only at this ⊢; omega)
    · rw [List.mem_singleton] at hl; subst hl
      rcases List.mem_append.mp hm with hm | hm
      · have := h.free1 m hm
        rw [← e] at this
        exact .inr (by dsimp only at this ⊢; omega)
      · rw [List.mem_singleton] at hm; subst hm; exact absurd rfl ne
  · intro z hz
    try dsimp only
    rw [List.countP_append]
    by_cases c : z = y
    · rw [if_pos c, c]
      have e0 : rs.countP (fun l => decide (l.1 = y)) = 0 := List.countP_eq_zero.mpr fun l hl => by simpa using hny l hl
      rw [e0, List.countP_singleton, if_neg (by simpa using xy)]
      exact ⟨rfl, by omega⟩
    · rw [if_neg c]
      have hzT : z ∈ T := (List.mem_append.mp hz).resolve_right fun q => c (List.mem_singleton.mp q)
      have t := h.turns z hzT
      by_cases d : z = x
      · rw [if_pos d, d, List.countP_singleton, if_pos (by simp)]
        rw [d] at t
        omega
      · rw [if_neg d, List.countP_singleton, if_neg (by simpa using fun e : x = z => d e.symm)]
        exact t
  · exact ⟨y, List.mem_append_right _ (List.mem_singleton.mpr rfl), if_pos rfl⟩
  · obtain ⟨us, a, b⟩ := h.hist
    exact ⟨us ++ [(x, y, fr x + wt)], a.step hx hyT w0, b.append_right _⟩
/-- a right plan, as a law draws it -/
structure RightP (D G n most : Int) (rs : List L3) : Prop where
  len : (rs.length : Int) = n - 1
  hands : ∀ l, l ∈ rs → (0 ≤ l.1 ∧ l.1 < n) ∧ (1 ≤ l.2.1 ∧ l.2.1 < n) ∧ l.1 ≠ l.2.1
  start : ∀ l, l ∈ rs → 0 ≤ l.2.2 ∧ l.2.2 ≤ (n - 1) * (4 * (D + G))
  nodup : (recvs rs).Nodup
  all : ∀ x : Int, 1 ≤ x → x < n → x ∈ recvs rs
  known : ∀ l, l ∈ rs → l.1 ≠ 0 → ∃ m, m ∈ rs ∧ m.2.1 = l.1 ∧ m.2.2 + D ≤ l.2.2
  gaps : ∀ l m, l ∈ rs → m ∈ rs → l.1 = m.1 → l.2.1 ≠ m.2.1 → l.2.2 + G ≤ m.2.2 ∨ m.2.2 + G ≤ l.2.2
  turns : ∀ x : Int, 0 ≤ x → x < n → ((rs.countP fun l => decide (l.1 = x) : Nat) : Int) ≤ most
  hist : ∃ T sn fr ss, Hist D G T sn fr ss ∧ ss.Perm rs ∧ ∀ x, x ∈ T → (0 ≤ x ∧ x < n) ∧ sn x = ((rs.countP fun l => decide (l.1 = x) : Nat) : Int)
theorem Grow.right {D G n most : Int} {k : Nat} {R T : List Int} {sn fr : Int → Int} {rs : List L3} (h : Grow D G n most k R T sn fr rs) (hk : (k : Int) = n - 1) : RightP D G n most rs := by
  have hR : R = [] := List.eq_nil_of_length_eq_zero (by have := h.lenR; omega)
  have hc : ∀ x : Int, 0 ≤ x → x < n → x ∈ T := fun x h0 h1 => (h.cover x h0 h1).resolve_left fun z => by rw [hR] at z; nomatch z
  refine ⟨by rw [h.lenL]; exact hk, fun l hl => ?_, fun l hl => ?_, h.nodL, fun x h0 h1 => (h.told x).mpr ⟨hc x (by omega) h1, by omega⟩, h.known, h.gaps, fun x h0 h1 => ?_, let ⟨us, a, b⟩ := h.hist; ⟨T, sn, fr, us, a, b, fun x hx => ⟨h.inT x hx, (h.turns x hx).1⟩⟩⟩
  · have a := h.send l hl
    have b := h.inT _ a.1
    have c := (h.told _).mp (recvs_mem hl)
    have d := h.inT _ c.1
    have e := c.2
    exact ⟨b, ⟨by omega, d.2⟩, a.2⟩
  · have := h.start l hl
    rw [hk] at this
    exact this
  · have t := h.turns x (hc x h0 h1)
    omega
theorem RightP.none {D G n most : Int} {rs : List L3} (h : RightP D G n most rs) (hD : 1 ≤ D ∧ D ≤ 3000000000) (hG : 1 ≤ G ∧ G ≤ 1000000000) (hn : 1 ≤ n ∧ n ≤ 1000) : lawF D G n rs = Option.none := by
  have h1 : formS (rs.map (·.2.2)) = Option.none := form_ok fun s hs => by
    obtain ⟨l, hl, rfl⟩ := List.mem_map.mp hs
    have a := h.start l hl
    have : (n - 1) * (4 * (D + G)) ≤ 1000 * 16000000000 := Int.mul_le_mul (by omega) (by omega) (by omega) (by omega)
    omega
  have h2 : handF n 0 1 (rs.map fun l => (l.1, l.2.1)) = Option.none := hand_ok fun g hg => by
    obtain ⟨l, hl, rfl⟩ := List.mem_map.mp hg
    exact h.hands l hl
  have h3 := again_ok h.nodup
  have h4 := nobody_ok h.all
  have uniq : ∀ l m, l ∈ rs → m ∈ rs → l.2.1 = m.2.1 → l = m := fun l m hl hm e => by
    obtain ⟨i, hi⟩ := List.mem_iff_getElem?.mp hl
    obtain ⟨j, hj⟩ := List.mem_iff_getElem?.mp hm
    have g1 : (recvs rs)[i]? = some l.2.1 := by unfold recvs; rw [List.getElem?_map, hi]; rfl
    have g2 : (recvs rs)[j]? = some m.2.1 := by unfold recvs; rw [List.getElem?_map, hj]; rfl
    obtain ⟨k1, k2⟩ := List.getElem?_eq_some_iff.mp g1
    obtain ⟨k3, k4⟩ := List.getElem?_eq_some_iff.mp g2
    have nd := List.pairwise_iff_getElem.mp h.nodup
    rcases Nat.lt_trichotomy i j with c | c | c
    · exact absurd (k2.trans (e.trans k4.symm)) (nd i j k1 k3 c)
    · subst c; exact Option.some.inj (hi.symm.trans hj)
    · exact absurd (k4.trans (e.symm.trans k2.symm)) (nd j i k3 k1 c)
  have h5 : earlyL D rs = Option.none := by
    unfold earlyL
    rw [first_none fun i hi => ?_]
    · rfl
    · have hl := List.getElem?_eq_getElem hi
      rw [getD_of hl]
      have hm : rs[i] ∈ rs := List.getElem_mem hi
      refine decide_eq_false fun ⟨c1, c2⟩ => ?_
      obtain ⟨m, hm1, e1, e2⟩ := h.known _ hm (by omega)
      have b := (h.hands _ hm).1
      obtain ⟨m2, hm2, e3, e4⟩ := known_mem (D := D) (h.all rs[i].1 (by omega) (by omega))
      rw [e4, uniq m2 m hm2 hm1 (e3.trans e1.symm)] at c2
      omega
  have h6 : gapL G rs = Option.none := by
    unfold gapL
    rw [first_none fun i hi => ?_]
    · rfl
    · have hl := List.getElem?_eq_getElem hi
      rw [getD_of hl, List.any_eq_false]
      intro q hq he
      obtain ⟨e1, e2, e3⟩ := of_decide_eq_true he
      obtain ⟨j, hj⟩ := List.mem_iff_getElem?.mp hq
      have hji : j < i := by
        have := (List.getElem?_eq_some_iff.mp hj).1
        rw [List.length_take] at this
        omega
      rw [List.getElem?_take, if_pos hji] at hj
      have hq' : q ∈ rs := List.mem_iff_getElem?.mpr ⟨j, hj⟩
      have hm : rs[i] ∈ rs := List.getElem_mem hi
      have hne : q.2.1 ≠ rs[i].2.1 := fun e => by
        have g1 : (recvs rs)[j]? = some q.2.1 := by unfold recvs; rw [List.getElem?_map, hj]; rfl
        have g2 : (recvs rs)[i]? = some rs[i].2.1 := by unfold recvs; rw [List.getElem?_map, hl]; rfl
        obtain ⟨k1, k2⟩ := List.getElem?_eq_some_iff.mp g1
        obtain ⟨k3, k4⟩ := List.getElem?_eq_some_iff.mp g2
        exact (List.pairwise_iff_getElem.mp h.nodup) j i k1 k3 hji (by rw [k2, k4]; exact e)
      rcases h.gaps q _ hq' hm e1 hne with c | c <;> omega
  unfold lawF
  rw [h1, h2, h3, h4, h5, h6]
  rfl
theorem RightP.ok {D G n most : Int} {rs : List L3} (h : RightP D G n most rs) (hD : 1 ≤ D ∧ D ≤ 3000000000) (hG : 1 ≤ G ∧ G ≤ 1000000000) (hn : 1 ≤ n ∧ n ≤ 1000) : faultF D G n rs = Option.none := (law_fault hn.1 (by omega)).symm.trans (h.none hD hG hn)

/-! ### compares of strings -/
theorem r_eqStr {H : Hp} {Q : VK} {x y : Str} (b : Bool) (h : decide (V.str x = V.str y) = b) (q : Q (.bl b) H) : rEq (.str x) (.str y) H Q := ⟨rfl, by rw [h]; exact q⟩
theorem r_neStr {H : Hp} {Q : VK} {x y : Str} (b : Bool) (h : decide (V.str x = V.str y) = b) (q : Q (.bl (!b)) H) : rNe (.str x) (.str y) H Q := ⟨rfl, by rw [h]; exact q⟩
theorem r_isNs {H : Hp} {Q : VK} {s : Str} (q : Q (.bl false) H) : rIsNo (.str s) .non H Q := ⟨rfl, q⟩
theorem r_notNs {H : Hp} {Q : VK} {s : Str} (q : Q (.bl true) H) : rNotNo (.str s) .non H Q := ⟨rfl, q⟩

/-! ### rows of three in a list, kept and changed -/
theorem tup_but {H H' : Hp} {p q f : Addr} {xs : List V} (e : H f = some (.tup xs)) (hs : SrcAt H p q) (b : But p H H') : H' f = some (.tup xs) := b _ _ e (fun z => by
  obtain ⟨cs, i, big, cnt, st, h1, _⟩ := hs
  rw [z, h1] at e; cases e)
theorem TrisAt.but {H H' : Hp} {xs : List V} {ls : List L3} {p q : Addr} (h : TrisAt H xs ls) (hs : SrcAt H p q) (b : But p H H') : TrisAt H' xs ls := ⟨h.1, fun i g hg => let ⟨t, e, z⟩ := h.2 i g hg; ⟨t, e, tup_but z hs b⟩⟩
theorem TrisAt.split {H : Hp} {x : V} {i : Nat} {xs : List V} {l : L3} {ls : List L3} {t : Addr} (h : TrisAt H xs ls) (hx : x = .ref t) (e : H t = some (.tup (triV l))) : TrisAt H (xs.take i ++ [x] ++ xs.drop i) (ls.take i ++ [l] ++ ls.drop i) := by
  subst hx
  have hl := h.1
  refine ⟨by simp [hl], fun j g hg => ?_⟩
  rw [List.append_assoc] at hg ⊢
  by_cases c1 : j < (ls.take i).length
  · rw [List.getElem?_append_left c1] at hg
    rw [List.getElem?_append_left (by rw [List.length_take] at c1 ⊢; omega)]
    have hji : j < i := by rw [List.length_take] at c1; omega
    rw [List.getElem?_take, if_pos hji] at hg ⊢
    exact h.2 j g hg
  · have e1 : (ls.take i).length = (xs.take i).length := by rw [List.length_take, List.length_take, hl]
    rw [List.getElem?_append_right (by omega)] at hg
    rw [List.getElem?_append_right (by omega), ← e1]
    cases c2 : j - (ls.take i).length with
    | zero =>
      rw [c2] at hg
      obtain rfl := Option.some.inj hg
      exact ⟨t, rfl, e⟩
    | succ m =>
      rw [c2] at hg
      have hg : (ls.drop i)[m]? = some g := hg
      show ∃ t, (xs.drop i)[m]? = some (.ref t) ∧ _
      rw [List.getElem?_drop] at hg ⊢
      exact h.2 _ g hg
theorem TrisAt.set {H : Hp} {xs : List V} {ls : List L3} {t : Addr} {l : L3} {i : Nat} (h : TrisAt H xs ls) (e : H t = some (.tup (triV l))) : TrisAt H (xs.set i (.ref t)) (ls.set i l) := ⟨by rw [List.length_set, List.length_set, h.1], fun j g hg => by
  rw [List.getElem?_set] at hg ⊢
  by_cases c : i = j
  · rw [if_pos c] at hg ⊢
    split at hg
    · rename_i hlt
      rw [if_pos (by rw [h.1]; exact hlt)]
      obtain rfl := Option.some.inj hg
      exact ⟨t, rfl, e⟩
    · cases hg
  · rw [if_neg c] at hg ⊢
    exact h.2 j g hg⟩
theorem TrisAt.cat {H : Hp} {xs ys : List V} {ls ms : List L3} (h : TrisAt H xs ls) (k : TrisAt H ys ms) : TrisAt H (xs ++ ys) (ls ++ ms) := ⟨by rw [List.length_append, List.length_append, h.1, k.1], fun i r hr => by
  by_cases hi : i < ls.length
  · rw [List.getElem?_append_left hi] at hr
    rw [List.getElem?_append_left (by rw [h.1]; exact hi)]
    exact h.2 i r hr
  · rw [List.getElem?_append_right (by omega)] at hr
    rw [List.getElem?_append_right (by rw [h.1]; omega), h.1]
    exact k.2 _ r hr⟩
theorem TrisAt.take {H : Hp} {xs : List V} {ls : List L3} {i : Nat} (h : TrisAt H xs ls) : TrisAt H (xs.take i) (ls.take i) := ⟨by rw [List.length_take, List.length_take, h.1], fun j g hg => by
  rw [List.getElem?_take] at hg ⊢
  by_cases c : j < i
  · rw [if_pos c] at hg ⊢; exact h.2 j g hg
  · rw [if_neg c] at hg; cases hg⟩
theorem TrisAt.drop {H : Hp} {xs : List V} {ls : List L3} {i : Nat} (h : TrisAt H xs ls) : TrisAt H (xs.drop i) (ls.drop i) := ⟨by rw [List.length_drop, List.length_drop, h.1], fun j g hg => by
  rw [List.getElem?_drop] at hg ⊢; exact h.2 _ g hg⟩
theorem at_int {α : Type} {xs : List α} {d : Int} (h0 : 0 ≤ d) (h1 : d < xs.length) : atI xs d = some (xs[d.toNat]'(by omega)) := by
  have e : d = ((d.toNat : Nat) : Int) := by omega
  conv => lhs; rw [e]
  exact atI_nat (List.getElem?_eq_getElem (by omega))
theorem ix_int {n : Nat} {d : Int} (h0 : 0 ≤ d) (h1 : d < n) : ixN n d = some d.toNat := by
  unfold ixN
  rw [if_pos h0, if_pos h1]
theorem u65 {k : Nat} {A : Around} (r : Room k A) : A.units + 65 < cLine := by have := r.un; omega

/-! ### plans drawn by a law, read -/
structure Pl (p q r t s f L : Addr) (H0 : Hp) (R T : List Int) (sk fk : List (L2.Key × V)) (xs : List V) (rs : List L3) (H : Hp) : Prop where
  hs : SrcAt H p q
  kp : But p H0 H
  eR : H r = some (.lst (R.map V.int))
  eT : H t = some (.lst (T.map V.int))
  eS : H s = some (.dK sk)
  eF : H f = some (.dK fk)
  eL : H L = some (.lst xs)
  hA : TrisAt H xs rs
  nd : [p, q, r, t, s, f, L].Nodup
  fr : ∀ x, x ∈ [r, t, s, f, L] → H0 x = none
theorem Pl.keep {p q r t s f L : Addr} {H0 H H' : Hp} {R T : List Int} {sk fk : List (L2.Key × V)} {xs : List V} {rs : List L3} (h : Pl p q r t s f L H0 R T sk fk xs rs H) (z : Same H H') : Pl p q r t s f L H0 R T sk fk xs rs H' :=
  ⟨h.hs.keep z, h.kp.trans (But.of_same z), z _ _ h.eR, z _ _ h.eT, z _ _ h.eS, z _ _ h.eF, z _ _ h.eL, h.hA.keep z, h.nd, h.fr⟩
theorem Pl.ne {p q r t s f L : Addr} {H0 H : Hp} {R T : List Int} {sk fk : List (L2.Key × V)} {xs : List V} {rs : List L3} (h : Pl p q r t s f L H0 R T sk fk xs rs H) : (p ≠ q ∧ p ≠ r ∧ p ≠ t ∧ p ≠ s ∧ p ≠ f ∧ p ≠ L) ∧ (q ≠ r ∧ q ≠ t ∧ q ≠ s ∧ q ≠ f ∧ q ≠ L) ∧ (r ≠ t ∧ r ≠ s ∧ r ≠ f ∧ r ≠ L) ∧ (t ≠ s ∧ t ≠ f ∧ t ≠ L) ∧ (s ≠ f ∧ s ≠ L) ∧ f ≠ L := by
  have := h.nd
  simpa [List.nodup_cons, and_assoc, not_or] using this
theorem Pl.but {p q r t s f L : Addr} {H0 H H' : Hp} {R T : List Int} {sk fk : List (L2.Key × V)} {xs : List V} {rs : List L3} (h : Pl p q r t s f L H0 R T sk fk xs rs H) (hs : SrcAt H' p q) (b : But p H H') : Pl p q r t s f L H0 R T sk fk xs rs H' := by
  obtain ⟨⟨a1, a2, a3, a4, a5, a6⟩, _⟩ := h.ne
  exact ⟨hs, h.kp.trans b, b _ _ h.eR a2.symm, b _ _ h.eT a3.symm, b _ _ h.eS a4.symm, b _ _ h.eF a5.symm, b _ _ h.eL a6.symm, h.hA.but h.hs b, h.nd, h.fr⟩
theorem Pl.putR {p q r t s f L : Addr} {H0 H : Hp} {R R' T : List Int} {sk fk : List (L2.Key × V)} {xs : List V} {rs : List L3} (h : Pl p q r t s f L H0 R T sk fk xs rs H) {ys : List V} (e : ys = R'.map V.int) : Pl p q r t s f L H0 R' T sk fk xs rs (L2.upd H r (.lst ys)) := by
  obtain ⟨⟨a1, a2, a3, a4, a5, a6⟩, ⟨b2, b3, b4, b5, b6⟩, ⟨c3, c4, c5, c6⟩, _⟩ := h.ne
  subst e
  exact ⟨h.hs.upd a2.symm b2.symm, h.kp.updOver (h.fr r (by simp)) h.eR, upd_same, (upd_ne c3.symm).trans h.eT, (upd_ne c4.symm).trans h.eS, (upd_ne c5.symm).trans h.eF, (upd_ne c6.symm).trans h.eL, h.hA.upd h.eR, h.nd, h.fr⟩
theorem Pl.putT {p q r t s f L : Addr} {H0 H : Hp} {R T T' : List Int} {sk fk : List (L2.Key × V)} {xs : List V} {rs : List L3} (h : Pl p q r t s f L H0 R T sk fk xs rs H) {ys : List V} (e : ys = T'.map V.int) : Pl p q r t s f L H0 R T' sk fk xs rs (L2.upd H t (.lst ys)) := by
  obtain ⟨⟨a1, a2, a3, a4, a5, a6⟩, ⟨b2, b3, b4, b5, b6⟩, ⟨c3, c4, c5, c6⟩, ⟨d4, d5, d6⟩, _⟩ := h.ne
  subst e
  exact ⟨h.hs.upd a3.symm b3.symm, h.kp.updOver (h.fr t (by simp)) h.eT, (upd_ne c3).trans h.eR, upd_same, (upd_ne d4.symm).trans h.eS, (upd_ne d5.symm).trans h.eF, (upd_ne d6.symm).trans h.eL, h.hA.upd h.eT, h.nd, h.fr⟩
theorem TrisAt.updD {H : Hp} {xs : List V} {ls : List L3} {d : Addr} {kvs : List (L2.Key × V)} {o : HO} (h : TrisAt H xs ls) (e : H d = some (.dK kvs)) : TrisAt (L2.upd H d o) xs ls := ⟨h.1, fun i g hg => let ⟨t, e1, z⟩ := h.2 i g hg; ⟨t, e1, (upd_ne (fun y => by rw [y, e] at z; cases z)).trans z⟩⟩
theorem Pl.putS {p q r t s f L : Addr} {H0 H : Hp} {R T : List Int} {sk sk' fk : List (L2.Key × V)} {xs : List V} {rs : List L3} (h : Pl p q r t s f L H0 R T sk fk xs rs H) : Pl p q r t s f L H0 R T sk' fk xs rs (L2.upd H s (.dK sk')) := by
  obtain ⟨⟨a1, a2, a3, a4, a5, a6⟩, ⟨b2, b3, b4, b5, b6⟩, ⟨c3, c4, c5, c6⟩, ⟨d4, d5, d6⟩, ⟨e5, e6⟩, f6⟩ := h.ne
  exact ⟨h.hs.upd a4.symm b4.symm, h.kp.updOver (h.fr s (by simp)) h.eS, (upd_ne c4).trans h.eR, (upd_ne d4).trans h.eT, upd_same, (upd_ne e5.symm).trans h.eF, (upd_ne e6.symm).trans h.eL, h.hA.updD h.eS, h.nd, h.fr⟩
theorem Pl.putF {p q r t s f L : Addr} {H0 H : Hp} {R T : List Int} {sk fk fk' : List (L2.Key × V)} {xs : List V} {rs : List L3} (h : Pl p q r t s f L H0 R T sk fk xs rs H) : Pl p q r t s f L H0 R T sk fk' xs rs (L2.upd H f (.dK fk')) := by
  obtain ⟨⟨a1, a2, a3, a4, a5, a6⟩, ⟨b2, b3, b4, b5, b6⟩, ⟨c3, c4, c5, c6⟩, ⟨d4, d5, d6⟩, ⟨e5, e6⟩, f6⟩ := h.ne
  exact ⟨h.hs.upd a5.symm b5.symm, h.kp.updOver (h.fr f (by simp)) h.eF, (upd_ne c5).trans h.eR, (upd_ne d5).trans h.eT, (upd_ne e5).trans h.eS, upd_same, (upd_ne f6.symm).trans h.eL, h.hA.updD h.eF, h.nd, h.fr⟩
theorem Pl.putL {p q r t s f L : Addr} {H0 H : Hp} {R T : List Int} {sk fk : List (L2.Key × V)} {xs ys : List V} {rs ss : List L3} (h : Pl p q r t s f L H0 R T sk fk xs rs H) (k : TrisAt H ys ss) : Pl p q r t s f L H0 R T sk fk ys ss (L2.upd H L (.lst ys)) := by
  obtain ⟨⟨a1, a2, a3, a4, a5, a6⟩, ⟨b2, b3, b4, b5, b6⟩, ⟨c3, c4, c5, c6⟩, ⟨d4, d5, d6⟩, ⟨e5, e6⟩, f6⟩ := h.ne
  exact ⟨h.hs.upd a6.symm b6.symm, h.kp.updOver (h.fr L (by simp)) h.eL, (upd_ne c6).trans h.eR, (upd_ne d6).trans h.eT, (upd_ne e6).trans h.eS, (upd_ne f6).trans h.eF, upd_same, k.upd h.eL, h.nd, h.fr⟩
theorem r_lstRg2 {ta tb : TE} {σ : St} {H : Hp} {Q : VK} (h : ta σ H fun x H1 => tb σ H1 fun y H2 => ∃ i j, x = .int i ∧ y = .int j ∧ (RgOk i j ∧ ∀ q, H2 q = none → Q (.ref q) (upd H2 q (.lst (rgV i j))))) : tLstRg (tRg2 ta tb) σ H Q := h
theorem map_erase : ∀ (l : List Int) (i : Nat), (l.map V.int).eraseIdx i = (l.eraseIdx i).map V.int
  | [], _ => rfl
  | _ :: _, 0 => rfl
  | x :: l, i + 1 => congrArg (V.int x :: ·) (map_erase l i)
def from1 (n : Int) : List Int := (List.range (n - 1).toNat).map fun h : Nat => 1 + (h : Int)
theorem rg_from1 (n : Int) : rgV 1 n = (from1 n).map V.int := by
  unfold rgV from1
  rw [List.map_map]
  rfl
theorem mem_from1 {n x : Int} : x ∈ from1 n ↔ 1 ≤ x ∧ x < n := by
  unfold from1
  rw [List.mem_map]
  constructor
  · rintro ⟨k, hk, rfl⟩
    have := List.mem_range.mp hk
    omega
  · intro h
    exact ⟨(x - 1).toNat, List.mem_range.mpr (by omega), by omega⟩
theorem nd_from1 {n : Int} : (from1 n).Nodup := by
  unfold from1
  unfold List.Nodup
  rw [List.pairwise_map]
  exact List.nodup_range.imp (fun h e => h (by omega))
theorem len_from1 {n : Int} (h : 1 ≤ n) : ((from1 n).length : Int) = n - 1 := by
  unfold from1
  rw [List.length_map, List.length_range]
  omega
theorem r_disp1 {σ : St} {H : Hp} {Q : VK} {i : Int} {v : V} (k : ∀ p H', H p = none → Same H H' → H' p = some (.dK [(.inl i, v)]) → Q (.ref p) H') : tDisp [(tC (.int i), tC v)] σ H Q := fun p hp => by
  show _ ∧ _
  exact ⟨upd_same, [(.inl i, v)], rfl, Nat.le_of_ble_eq_true rfl, k p _ hp ((Same.new hp).over hp upd_same) upd_same⟩
/-- what a dict says of the hands told -/
def Says (kvs : List (L2.Key × V)) (T : List Int) (g : Int → Int) : Prop := ∀ x, x ∈ T → valV kvs (.inl x) = some (.int (g x))
theorem Says.two {kvs : List (L2.Key × V)} {T : List Int} {g : Int → Int} {x y u v : Int} (h : Says kvs T g) : Says (putK (putK kvs (.inl x) (.int u)) (.inl y) (.int v)) (T ++ [y]) (fun z => if z = y then v else if z = x then u else g z) := fun z hz => by
  show valV _ _ = some (.int (if z = y then v else if z = x then u else g z))
  rw [valV_putK, valV_putK]
  by_cases c : z = y
  · rw [if_pos (by rw [c]), if_pos c]
  · rw [if_neg (fun e => c (Sum.inl.inj e)), if_neg c]
    by_cases d : z = x
    · rw [if_pos (by rw [d]), if_pos d]
    · rw [if_neg (fun e => d (Sum.inl.inj e)), if_neg d]
      exact h z ((List.mem_append.mp hz).resolve_right fun q => c (List.mem_singleton.mp q))
theorem perm_split {α : Type} (rs : List α) (i : Nat) (l : α) : (rs ++ [l]).Perm (rs.take i ++ [l] ++ rs.drop i) := by
  conv => lhs; rw [← List.take_append_drop i rs]
  rw [List.append_assoc, List.append_assoc]
  exact List.Perm.append_left _ List.perm_append_comm
def spPlan : Sp := fun vs H Q _ => ∃ (p q : Addr) (D G n most : Int), vs = [.ref p, .int D, .int G, .int n, .int most] ∧ SrcAt H p q ∧ (1 ≤ D ∧ D ≤ 3000000000) ∧ (1 ≤ G ∧ G ≤ 1000000000) ∧ (1 ≤ n ∧ n ≤ 100) ∧ (1 ≤ most ∧ most ≤ 1000) ∧
  ∀ (L : Addr) (xs : List V) (rs : List L3) (H' : Hp), SrcAt H' p q → But p H H' → H' L = some (.lst xs) → TrisAt H' xs rs → L ≠ p → L ≠ q → H L = none → RightP D G n most rs → Q (.ref L) H'
section
variable {P : Program} {w : World} {K : PySem.W.Frag} {mg : Str → Option Value} {base : Heap} {a : Adr}
set_option maxHeartbeats 0 in
theorem ok__law_plan (T : Txt K mg base a) : FnOk P w K mg base CX0 3 a.a__law_plan a.d__law_plan ["_law_source_here", "_law_letter", "_law_gap", "_law_n", "_law_most"] spPlan := by
  refine T.F__law_plan.ok sc__law_plan (fun vs H Q E h => ?_) (fun cdv A outer s H vs Q E hr h => ?_)
  · obtain ⟨p, q, D, G, n, most, rfl, _⟩ := h
    rfl
  · obtain ⟨p, q, D, G, n, most, rfl, hs, hD, hG, hn, hm, k⟩ := h
    refine ⟨_, (pss_cons (ps_set (i := 5) sc__law_plan.nd rfl (Or.inl rfl) (pe_listRg rfl (by rfl) T.n_list (prg_2 (by rfl) T.n_range pe_int (pv 3))))
 (pss_cons (ps_set (i := 6) sc__law_plan.nd rfl (Or.inl rfl) (pe_lst (pa_cons pe_int pa_nil)))
 (pss_cons (ps_set (i := 7) sc__law_plan.nd rfl (Or.inr rfl) (pe_disp (pps_cons pe_int pe_int pps_nil) rfl rfl (by decide) (by decide)))
 (pss_cons (ps_set (i := 8) sc__law_plan.nd rfl (Or.inl rfl) (pe_disp (pps_cons pe_int pe_int pps_nil) rfl rfl (by decide) (by decide)))
 (pss_cons (ps_set (i := 9) sc__law_plan.nd rfl (Or.inl rfl) (pe_lst pa_nil))
 (pss_cons (ps_set (i := 10) sc__law_plan.nd rfl (Or.inl rfl) (pe_call (ok__law_draw T) (hr.mono (by decide)) (by rfl) T.g__law_draw T.F__law_draw.kp T.b__law_draw .nil pass0 (pa_cons (pv 0) (pa_cons pe_int pa_nil))))
 (pss_cons (ps_set (i := 11) sc__law_plan.nd rfl (Or.inl rfl) (pe_call (ok__law_draw T) (hr.mono (by decide)) (by rfl) T.g__law_draw T.F__law_draw.kp T.b__law_draw .nil pass0 (pa_cons (pv 0) (pa_cons pe_int pa_nil))))
 (pss_cons (ps_for (by exact PassesOwn.never) rfl (pi_range1 (by rfl) T.n_range (pa_cons (pe_op op_sub (pv 3) pe_int) pa_nil)) (pg_name (i := 12) sc__law_plan.nd rfl (Or.inl rfl))
 (pss_cons (ps_set (i := 13) sc__law_plan.nd rfl (Or.inl rfl) (pe_bm PySem.F.plainAttrs_list PySem.F.slot_list_pop PySem.F.type_list_pop mt_popAt (pv 5) (pa_cons (pe_call (ok__law_draw T) (hr.mono (by decide)) (by rfl) T.g__law_draw T.F__law_draw.kp T.b__law_draw .nil pass0 (pa_cons (pv 0) (pa_cons (pe_callB call_len_seq (by rfl) T.n_len (by decide +kernel) (pa_cons (pv 5) pa_nil)) pa_nil))) pa_nil)))
 (pss_cons (ps_setLc (i := 14) (own := [("_law_other", 18)]) (g := gName 18) rfl sc__law_plan.nd rfl rfl (sw_true rfl rfl rfl (by decide +kernel)) (pi_list (pv 6)) (blkOk_by (own := [("_law_other", 18)]) (N := ["_law_source_here", "_law_letter", "_law_gap", "_law_n", "_law_most", "_law_rest", "_law_told", "_law_sent", "_law_free", "_law_rows", "_law_shape", "_law_calm", "_law_k", "_law_hand", "_law_able", "_law_sender", "_law_wait", "_law_start", "_law_other"]) (sc := defScope s__law_plan) (by decide +kernel)) (fun _ _ _ _ _ => (pg_name (i := 18) sc__law_plan.nd rfl (Or.inl rfl))) (fun _ _ _ _ _ => pts_one (pt_cmpR op_lt (pe_dget (u1 hr.units) (pv 7) (pv 18) (fun _ _ => rfl)) (pv 4) (nomark _))) (fun _ _ _ _ _ => (pv 18)))
 (pss_cons (ps_set (i := 15) sc__law_plan.nd rfl (Or.inl rfl) (pe_ix ix_list (pv 14) (pe_call (ok__law_draw T) (hr.mono (by decide)) (by rfl) T.g__law_draw T.F__law_draw.kp T.b__law_draw .nil pass0 (pa_cons (pv 0) (pa_cons (pe_callB call_len_seq (by rfl) T.n_len (by decide +kernel) (pa_cons (pv 14) pa_nil)) pa_nil))) (fun _ _ => rfl)))
 (pss_cons (ps_if (pt_cmpR op_eq (pv 10) pe_int (nomark _)) (pss_one (ps_set (i := 15) sc__law_plan.nd rfl (Or.inl rfl) (pe_ix ix_list (pv 14) pe_int (fun _ _ => rfl))))
 pss_nil)
 (pss_cons (ps_if (pt_cmpR op_eq (pv 10) pe_int (nomark _)) (pss_one (ps_set (i := 15) sc__law_plan.nd rfl (Or.inl rfl) (pe_ix ix_list (pv 14) (pe_un un_neg pe_int) (fun _ _ => rfl))))
 pss_nil)
 (pss_cons (ps_set (i := 16) sc__law_plan.nd rfl (Or.inl rfl) pe_int)
 (pss_cons (ps_if (pt_cmpR op_gt (pv 11) pe_int (nomark _)) (pss_one (ps_set (i := 16) sc__law_plan.nd rfl (Or.inl rfl) (pe_ix ix_list (pe_lst (pa_cons pe_int (pa_cons pe_int (pa_cons pe_int (pa_cons (pv 2) (pa_cons (pv 1) (pa_cons (pe_call (ok__law_big T) (hr.mono (by decide)) (by rfl) T.g__law_big T.F__law_big.kp T.b__law_big .nil pass0 (pa_cons (pv 0) (pa_cons (pe_op op_mul pe_int (pe_op op_add (pv 1) (pv 2))) pa_nil))) pa_nil))))))) (pe_call (ok__law_draw T) (hr.mono (by decide)) (by rfl) T.g__law_draw T.F__law_draw.kp T.b__law_draw .nil pass0 (pa_cons (pv 0) (pa_cons pe_int pa_nil))) (fun _ _ => rfl))))
 pss_nil)
 (pss_cons (ps_set (i := 17) sc__law_plan.nd rfl (Or.inl rfl) (pe_op op_add (pe_dget (u1 hr.units) (pv 8) (pv 15) (fun _ _ => rfl)) (pv 16)))
 (pss_cons (ps_expr (pe_bm PySem.F.plainAttrs_list PySem.F.slot_list_insert PySem.F.type_list_insert mt_insert (pv 9) (pa_cons (pe_call (ok__law_draw T) (hr.mono (by decide)) (by rfl) T.g__law_draw T.F__law_draw.kp T.b__law_draw .nil pass0 (pa_cons (pv 0) (pa_cons (pe_op op_add (pe_callB call_len_seq (by rfl) T.n_len (by decide +kernel) (pa_cons (pv 9) pa_nil)) pe_int) pa_nil))) (pa_cons (pe_tup (pa_cons (pv 15) (pa_cons (pv 13) (pa_cons (pv 17) pa_nil)))) pa_nil))))
 (pss_cons (ps_asg (pe_op op_add (pv 17) (pv 2)) (pg_sub (pv 8) (pv 15) (set_dict (u1 hr.units))))
 (pss_cons (ps_augS (pv 7) (pv 15) (gt_dict (u1 hr.units)) pe_int ip_add (set_dict (u1 hr.units)))
 (pss_cons (ps_asg (pe_op op_add (pv 17) (pv 1)) (pg_sub (pv 8) (pv 13) (set_dict (u1 hr.units))))
 (pss_cons (ps_asg pe_int (pg_sub (pv 7) (pv 13) (set_dict (u1 hr.units))))
 (pss_one (ps_expr (pe_bm PySem.F.plainAttrs_list PySem.F.slot_list_append PySem.F.type_list_append mt_append (pv 6) (pa_cons (pv 13) pa_nil))))))))))))))))))
 (pss_one (ps_ret (pv 9))))))))))), ?_⟩
    repeat walk_at "rd"
    refine r_lstRg2 ?_
    repeat walk_at "rd"
    refine ⟨1, n, rfl, rfl, RgOk.of_le (by omega) (by omega) (by omega) (by omega), fun r nr => ?_⟩
    rw [rg_from1]
    have s1 : Same H (upd H r (.lst ((from1 n).map V.int))) := Same.new nr
    have e1 : upd H r (.lst ((from1 n).map V.int)) r = some (.lst ((from1 n).map V.int)) := upd_same
    revert s1 e1
    generalize upd H r (.lst ((from1 n).map V.int)) = H1
    intro s1 e1
    repeat walk_at "rd"
    refine new_at (Nat.le_of_ble_eq_true rfl) (fun t H2 nt s2 e2 => ?_)
    repeat walk_at "rd"
    refine r_disp1 (fun s H3 ns s3 e3 => ?_)
    repeat walk_at "rd"
    refine r_disp1 (fun f H4 nf s4 e4 => ?_)
    repeat walk_at "rd"
    refine new_at (Nat.zero_le _) (fun L H5 nL s5 e5 => ?_)
    have c2 := s1.trans s2
    have c3 := c2.trans s3
    have c4 := c3.trans s4
    have d0 := ne_of_none e1 nt
    have e1 := s2 _ _ e1
    have e1' := s3 _ _ e1
    have e2' := s3 _ _ e2
    have e1'' := s4 _ _ e1'
    have e2'' := s4 _ _ e2'
    have e3'' := s4 _ _ e3
    have S : Pl p q r t s f L H (from1 n) [0] [(.inl 0, .int 0)] [(.inl 0, .int 0)] [] [] H5 := ⟨hs.keep (c4.trans s5), But.of_same (c4.trans s5), s5 _ _ e1'', s5 _ _ e2'', s5 _ _ e3'', s5 _ _ e4, e5, TrisAt.nil, by
      have a2 := hs.ne nr
      have b2 := hs.neq nr
      have a3 := (hs.keep s1).ne nt
      have b3 := (hs.keep s1).neq nt
      have a4 := (hs.keep c2).ne ns
      have b4 := (hs.keep c2).neq ns
      have a5 := (hs.keep c3).ne nf
      have b5 := (hs.keep c3).neq nf
      have a6 := (hs.keep c4).ne nL
      have b6 := (hs.keep c4).neq nL
      have a1 : q ≠ p := by obtain ⟨_, _, _, _, _, _, _, z, _⟩ := hs; exact z
      have d1 := ne_of_none e1 ns
      have d2 := ne_of_none e1' nf
      have d3 := ne_of_none e1'' nL
      have d4 := ne_of_none e2 ns
      have d5 := ne_of_none e2' nf
      have d6 := ne_of_none e2'' nL
      have d7 := ne_of_none e3 nf
      have d8 := ne_of_none e3'' nL
      have d9 := ne_of_none e4 nL
      simp [a1.symm, a2.symm, b2.symm, a3.symm, b3.symm, a4.symm, b4.symm, a5.symm, b5.symm, a6.symm, b6.symm, d0, d1, d2, d3, d4, d5, d6, d7, d8, d9], by
      intro x hx
      simp only [List.mem_cons, List.not_mem_nil, or_false] at hx
      rcases hx with rfl | rfl | rfl | rfl | rfl
      · exact nr
      · exact s1.free nt
      · exact c2.free ns
      · exact c3.free nf
      · exact c4.free nL⟩
    clear e1 e1' e1'' e2 e2' e2'' e3 e3'' e4 e5 d0 nr nt ns nf nL s1 s2 s3 s4 s5 c2 c3 c4
    have hg : Grow D G n most 0 (from1 n) [0] (fun _ => 0) (fun _ => 0) [] := Grow.first hn.1 (by omega) _ (len_from1 hn.1) (fun x => mem_from1) nd_from1
    repeat walk_at "rd"
    refine ⟨p, q, 4, rfl, S.hs, by decide, by decide, fun shape H6 sh0 sh4 hs6 b6 => ?_⟩
    have S := S.but hs6 b6
    clear hs6 b6
    repeat walk_at "rd"
    refine ⟨p, q, 3, rfl, S.hs, by decide, by decide, fun calm H7 ca0 ca3 hs7 b7 => ?_⟩
    have S := S.but hs7 b7
    clear hs7 b7
    repeat walk_at "rd"
    refine ⟨by omega, by omega, for_range (lo := 0) (n := (n - 1).toNat) (fun i σ H' => ∃ (v12 v13 v14 v15 v16 v17 : Option V) (R T : List Int) (sn fr : Int → Int) (sk fk : List (L2.Key × V)) (xs : List V) (rs : List L3), σ = [some (.ref p), some (.int D), some (.int G), some (.int n), some (.int most), some (.ref r), some (.ref t), some (.ref s), some (.ref f), some (.ref L), some (.int shape), some (.int calm), v12, v13, v14, v15, v16, v17, none] ∧ Pl p q r t s f L H R T sk fk xs rs H' ∧ Grow D G n most i R T sn fr rs ∧ Says sk T sn ∧ Says fk T fr ∧ sk.length ≤ 2 * i + 1 ∧ fk.length ≤ 2 * i + 1) ⟨_, _, _, _, _, _, _, _, _, _, _, _, _, _, rfl, S, hg, fun x hx => by rw [List.mem_singleton] at hx; subst hx; rfl, fun x hx => by rw [List.mem_singleton] at hx; subst hx; rfl, Nat.le_refl _, Nat.le_refl _⟩ ?_ ?_⟩
    · clear S hg
      rintro i σ H8 hi ⟨v12, v13, v14, v15, v16, v17, R, T, sn, fr, sk, fk, xs, rs, rfl, S, hg, y1, y2, l1, l2⟩
      have hRl := hg.lenR
      have eR := S.eR
      repeat walk_at "rd"
      refine ⟨.inl ⟨rfl, _, SqL.of S.eR⟩, ?_⟩
      repeat walk_at "rd"
      refine ⟨p, q, _, rfl, S.hs, by rw [List.length_map]; omega, by rw [List.length_map]; omega, fun d H9 d0 d1 hs9 b9 => ?_⟩
      rw [List.length_map] at d1
      clear eR
      have S := S.but hs9 b9
      clear hs9 b9
      repeat walk_at "rd"
      have hdR : d.toNat < R.length := by omega
      obtain ⟨y, hy⟩ : ∃ y, R[d.toNat]? = some y := ⟨_, List.getElem?_eq_getElem hdR⟩
      refine ⟨r, _, d, d.toNat, .int y, rfl, rfl, S.eR, by omega, by omega, seqIndex_of d0 (by rw [List.length_map]; omega), by rw [List.getElem?_map, hy]; rfl, ?_⟩
      have S := S.putR (R' := R.eraseIdx d.toNat) (ys := (R.map V.int).eraseIdx d.toNat) (map_erase R d.toNat)
      revert S
      generalize upd H9 r (.lst ((R.map V.int).eraseIdx d.toNat)) = H10
      intro S
      repeat walk_at "rd"
      refine ⟨t, rfl, ⟨_, SqL.of S.eT⟩, fun Z hZ => lc_list (K := K) (a := t) (xs := T.map V.int) (fun i H' => Same H10 H' ∧ H' Z = some (.lst (((T.take i).filter fun x => decide (sn x < most)).map V.int))) ⟨Same.new hZ, upd_same⟩ (fun i H' _ h => SqL.of (h.1 _ _ S.eT)) ?_ ?_⟩
      · rintro i x H11 hi ⟨s11, e11⟩
        obtain ⟨z, hz, rfl⟩ := int_of_get hi
        have hT := hg.lenT
        repeat walk_at "rd"
        refine ⟨rfl, ?_⟩
        refine r_dget ?_
        repeat walk_at "rd"
        refine r_getK (s11 _ _ S.eS) (y1 z (List.mem_iff_getElem?.mpr ⟨_, hz⟩)) ?_
        repeat walk_at "rd"
        refine ite_d (fun hc => ?_) (fun hc => ?_)
        · repeat walk_at "rd"
          refine ⟨_, e11, small1000 (by rw [List.length_map]; have := List.length_filter_le (fun x => decide (sn x < most)) (T.take i); rw [List.length_take] at this; omega), s11.over hZ e11, ?_⟩
          rw [upd_same, take_more hz, List.filter_append, List.map_append]
          rw [show [z].filter (fun x => decide (sn x < most)) = [z] by simp [hc]]
          rfl
        · refine ⟨s11, ?_⟩
          rw [e11, take_more hz, List.filter_append, show [z].filter (fun x => decide (sn x < most)) = [] by simp [hc], List.append_nil]
      · rintro H11 ⟨s11, e11⟩
        rw [List.length_map, List.take_length] at e11
        have zp := S.hs.ne hZ
        have S := S.keep s11
        obtain ⟨AB, hAB⟩ : ∃ l, l = T.filter fun x => decide (sn x < most) := ⟨_, rfl⟩
        rw [← hAB] at e11
        have hAm : ∀ x, x ∈ AB → x ∈ T ∧ sn x < most := fun x hx => by
          rw [hAB, List.mem_filter] at hx
          exact ⟨hx.1, of_decide_eq_true hx.2⟩
        have hA0 : 0 < AB.length := by
          obtain ⟨x, h1, h2⟩ := hg.idle
          have : x ∈ AB := by rw [hAB, List.mem_filter]; exact ⟨h1, decide_eq_true (by omega)⟩
          exact List.length_pos_of_mem this
        have hA9 : AB.length ≤ 100 := by
          have := List.length_filter_le (fun x => decide (sn x < most)) T
          rw [← hAB, hg.lenT] at this
          omega
        clear hAB
        repeat walk_at "rd"
        refine ⟨p, q, _, rfl, S.hs, by rw [List.length_map]; omega, by rw [List.length_map]; omega, fun d2 H12 f0 f1 hs12 b12 => ?_⟩
        rw [List.length_map] at f1
        have eZ := b12 _ _ e11 zp
        have S := S.but hs12 b12
        clear hs12 b12 e11 s11 hZ
        obtain ⟨x, hx, ex⟩ : ∃ x, x ∈ AB ∧ atI (AB.map V.int) d2 = some (.int x) := ⟨AB[d2.toNat]'(by omega), List.getElem_mem _, by rw [at_int f0 (by rw [List.length_map]; omega), List.getElem_map]⟩
        refine r_ixL eZ ex ?_
        have hcase : shape = 1 ∨ shape = 2 ∨ (shape ≠ 1 ∧ shape ≠ 2) := by omega
        obtain ⟨x1, hx1, ex1⟩ : ∃ x, x ∈ AB ∧ atI (AB.map V.int) 0 = some (.int x) := ⟨AB[0]'hA0, List.getElem_mem _, by rw [at_int (Int.le_refl 0) (by rw [List.length_map]; omega), List.getElem_map]; rfl⟩
        obtain ⟨x2, hx2, ex2⟩ : ∃ x, x ∈ AB ∧ atI (AB.map V.int) (-1) = some (.int x) := by
          have hne : AB ≠ [] := fun e => by rw [e] at hA0; exact absurd hA0 (by decide)
          have := at_end AB.dropLast (AB.getLast hne)
          rw [List.dropLast_concat_getLast hne] at this
          exact ⟨_, List.getLast_mem hne, this⟩
        repeat first | walk_at "rd" | walk_at "rdi"
        rcases hcase with c | c | ⟨c, c'⟩
        all_goals first
          | (refine ite_tt c ?_
             repeat first | walk_at "rd" | walk_at "rdi"
             refine r_ixL eZ ex1 ?_
             repeat first | walk_at "rd" | walk_at "rdi"
             refine ite_ff (by omega) ?_
             repeat first | walk_at "rd" | walk_at "rdi"
             clear ex ex1 ex2 hx hx2 eZ
             revert hx1
             generalize x1 = x
             intro hx)
          | (refine ite_ff (by omega) ?_
             repeat first | walk_at "rd" | walk_at "rdi"
             refine ite_tt c ?_
             repeat first | walk_at "rd" | walk_at "rdi"
             refine r_ixL eZ ex2 ?_
             repeat first | walk_at "rd" | walk_at "rdi"
             clear ex ex1 ex2 hx hx1 eZ
             revert hx2
             generalize x2 = x
             intro hx)
          | (refine ite_ff c ?_
             repeat first | walk_at "rd" | walk_at "rdi"
             refine ite_ff c' ?_
             repeat first | walk_at "rd" | walk_at "rdi"
             clear ex ex1 ex2 hx1 hx2 eZ)
        any_goals clear c
        any_goals clear c'
        all_goals by_cases hca : 0 < calm
        all_goals first
          | (refine ite_tt hca ?_
             repeat first | walk_at "rd" | walk_at "rdi"
             refine ⟨p, q, _, rfl, S.hs, by omega, fun bg H13 bg0 bg9 hs13 b13 => ?_⟩
             have S := S.but hs13 b13
             clear hs13 b13
             repeat first | walk_at "rd" | walk_at "rdi"
             refine new_at (Nat.le_of_ble_eq_true rfl) (fun W H14 nW s14 eW => ?_)
             have wp := S.hs.ne nW
             have S := S.keep s14
             clear s14 nW
             repeat first | walk_at "rd" | walk_at "rdi"
             refine ⟨p, q, 6, rfl, S.hs, by decide, by decide, fun e6 H15 g0 g6 hs15 b15 => ?_⟩
             have eW := b15 _ _ eW wp
             have S := S.but hs15 b15
             clear hs15 b15
             obtain ⟨wt, w0, w9, ew⟩ : ∃ wt : Int, 0 ≤ wt ∧ wt ≤ 3 * (D + G) ∧ atI [V.int 0, .int 0, .int 1, .int G, .int D, .int bg] e6 = some (.int wt) := by
               have : e6 = 0 ∨ e6 = 1 ∨ e6 = 2 ∨ e6 = 3 ∨ e6 = 4 ∨ e6 = 5 := by omega
               rcases this with rfl | rfl | rfl | rfl | rfl | rfl
               · exact ⟨0, by omega, by omega, rfl⟩
               · exact ⟨0, by omega, by omega, rfl⟩
               · exact ⟨1, by omega, by omega, rfl⟩
               · exact ⟨G, by omega, by omega, rfl⟩
               · exact ⟨D, by omega, by omega, rfl⟩
               · exact ⟨bg, by omega, by omega, rfl⟩
             refine r_ixL eW ew ?_
             repeat first | walk_at "rd" | walk_at "rdi"
             clear eW ew wp g0 g6 bg0 bg9 hca)
          | (refine ite_ff hca ?_
             repeat first | walk_at "rd" | walk_at "rdi"
             have w0 : (0 : Int) ≤ 0 := Int.le_refl 0
             have w9 : (0 : Int) ≤ 3 * (D + G) := by omega
             clear hca)
        all_goals
          have hxT := hAm x hx
          have sx0 : 0 ≤ sn x := by have := (hg.turns x hxT.1).1; omega
          have hyR : y ∈ R := List.mem_iff_getElem?.mpr ⟨_, hy⟩
          have hyT := hg.apart y hyR
          refine r_dget ?_
          repeat walk_at "rd"
          refine r_getK S.eF (y2 x hxT.1) ?_
          repeat first | walk_at "rd" | walk_at "rdi"
          refine ⟨.inl ⟨rfl, _, SqL.of S.eL⟩, ?_⟩
          have eL := S.eL
          have hxl := S.hA.1
          have hrl := hg.lenL
          repeat first | walk_at "rd" | walk_at "rdi"
          refine ⟨p, q, _, rfl, S.hs, by omega, by omega, fun d3 H16 i0 i9 hs16 b16 => ?_⟩
          have S := S.but hs16 b16
          clear hs16 b16 eL
          repeat first | walk_at "rd" | walk_at "rdi"
          refine new_at (Nat.le_of_ble_eq_true rfl) (fun u H17 nu s17 eu => ?_)
          have S := S.keep s17
          clear s17 nu
          repeat first | walk_at "rd" | walk_at "rdi"
          refine ⟨L, xs, d3, .ref u, rfl, rfl, S.eL, small1000 (by omega), i0, by omega, ?_⟩
          have S := S.putL (S.hA.split (i := d3.toNat) (l := (x, y, _)) rfl eu)
          revert S
          generalize upd H17 L _ = H18
          intro S
          repeat first | walk_at "rd" | walk_at "rdi"
          refine r_setK S.eF (by omega) ?_
          generalize e1 : putK fk (.inl x) (V.int _) = fk1
          have lf1 : fk1.length ≤ fk.length + 1 := by rw [← e1]; exact len_putK
          have S := S.putF (fk' := fk1)
          revert S
          generalize upd H18 f _ = H19
          intro S
          repeat first | walk_at "rd" | walk_at "rdi"
          refine r_getK S.eS (y1 x hxT.1) ?_
          repeat first | walk_at "rd" | walk_at "rdi"
          refine r_setK S.eS (by omega) ?_
          generalize e2 : putK sk (.inl x) (V.int _) = sk1
          have ls1 : sk1.length ≤ sk.length + 1 := by rw [← e2]; exact len_putK
          have S := S.putS (sk' := sk1)
          revert S
          generalize upd H19 s _ = H20
          intro S
          repeat first | walk_at "rd" | walk_at "rdi"
          refine r_setK S.eF (by omega) ?_
          generalize e3 : putK fk1 (.inl y) (V.int _) = fk2
          have lf2 : fk2.length ≤ fk1.length + 1 := by rw [← e3]; exact len_putK
          have S := S.putF (fk' := fk2)
          revert S
          generalize upd H20 f _ = H21
          intro S
          repeat first | walk_at "rd" | walk_at "rdi"
          refine r_setK S.eS (by omega) ?_
          generalize e4 : putK sk1 (.inl y) (V.int _) = sk2
          have ls2 : sk2.length ≤ sk1.length + 1 := by rw [← e4]; exact len_putK
          have S := S.putS (sk' := sk2)
          revert S
          generalize upd H21 s _ = H22
          intro S
          repeat first | walk_at "rd" | walk_at "rdi"
          have hT := hg.lenT
          refine ⟨.inl ⟨rfl, _, SqL.of S.eT⟩, ?_⟩
          repeat first | walk_at "rd" | walk_at "rdi"
          refine r_app S.eT (small1000 (by rw [List.length_map]; omega)) ?_
          have S := S.putT (T' := T ++ [y]) (ys := T.map V.int ++ [V.int y]) (by rw [List.map_append]; rfl)
          subst e1 e2 e3 e4
          exact ⟨_, _, _, _, _, _, R.eraseIdx d.toNat, T ++ [y], _, _, _, _, _, _, rfl, S, (hg.step (by omega) (by omega) hy hxT.1 hxT.2 w0 w9 sx0).perm (perm_split _ _ _), y1.two, y2.two, by omega, by omega⟩
    · clear S hg
      rintro σ H8 ⟨v12, v13, v14, v15, v16, v17, R, T, sn, fr, sk, fk, xs, rs, rfl, S, hg, y1, y2, l1, l2⟩
      repeat walk_at "rd"
      obtain ⟨⟨a1, a2, a3, a4, a5, a6⟩, ⟨b2, b3, b4, b5, b6⟩, _⟩ := S.ne
      exact k L xs rs H8 S.hs S.kp S.eL S.hA a6.symm b6.symm (S.fr L (by simp)) (hg.right (by omega))
end

/-! ### a lambda as a value; sorted(xs, key=lambda t: t[i]) -/
/-- just this object stands at f -/
def ObF (f : Addr) (ob : Obj) : HO := .ext fun h => h.get? f = some ob
instance {f : Addr} {ob : Obj} : Nt (ObF f ob) := ⟨rfl⟩
section
variable {X : Cx} {pins : List (Addr × Obj)} {σ : L2.St} {H : Hp} {s : Shared}
theorem lam_mkO [Tn] {c P : Addr} {params : Arguments} {body : Expr} {scope : Scope} {pos : Pos} {E Q : Value → Shared → Prop} (I : Inv X pins σ H s) (B : LamX.TabB X.base X.mg c P) (hc : X.env.code = .ref c)
    (hm : (P, X.env.qual ++ "<lambda>") ∈ Tn.t) (hu : ∀ p ∈ Tn.t, p.1 = P → p.2 = X.env.qual ++ "<lambda>") (hT : TbsOk H) (hd : defaultsOf params X.env = ([], [])) (hf : ∀ y ∈ scope.names, y.2 = .free → ∃ c, X.env.cells.lookup y.1 = some c)
    (k : ∀ (f c' : Addr) (pm ctv : Value) (H' : Hp) (s' : Shared), Inv X pins σ (upd H' f (ObF f (PySem.W.kla_obj "<lambda>" (X.env.qual ++ "<lambda>") params body scope (cloFrom X.env.cells scope.names []) pm c' ctv))) s' → Same H H' → H' f = none → H' c' = some (LamX.CodeO c' (X.env.qual ++ "<lambda>")) → Q (.ref f) s') :
    wpAny (model X.prog X.w) X.A (eval (.Lambda params body scope pos) X.env) Q E s := by
  obtain ⟨ps, tP, tOk, tA⟩ := hT _ hm
  have gP : s.heap.get? P = some { cls := .none, data := .fields ps } := I.hok P _ tP
  have bP := B.bm.keeps I.bk
  have obOk : ∀ {P : Program} {w : World} {H : Hp} {h : Heap} {f : Addr} {ob : Obj}, h.get? f = some ob → ObjOk P w H h f (ObF f ob) := fun e => ⟨e, ⟨_, e⟩, fun h1 h2 g kk => kk _ g⟩
  refine PySem.W.kla_eval hd ?_
  cases known : codeAmong pos ps.toList with
  | some cv =>
    obtain ⟨c', rfl, hco⟩ := tA pos cv known
    refine PySem.W.kla_makeFunctionHit (mg := X.mg) (c := c) (P := P) (ps := ps) (closure_ok hf) I.ok.glob (I.mod.glob.keeps I.bk) hc (B.code.keeps I.bk) gP tOk known bP fun ctv h' tk hk le => ?_
    exact k h'.objs.size c' _ ctv H _ (I.laid (fun b o e => Heap.get?_push_of_some _ (hk b o e)) le (obOk (Heap.get?_push_size _ rfl))) (Same.refl H) (I.hok.fresh le) hco
  | none =>
    refine PySem.W.kla_makeFunction (mg := X.mg) (c := c) (P := P) (ps := ps) (closure_ok hf) I.ok.glob (I.mod.glob.keeps I.bk) hc (B.code.keeps I.bk) gP tOk known B.gP bP fun c' ctv h' tk hk le lt rec tb => ?_
    obtain ⟨c2, oc, vs, t, ec, hoc, ed, ev⟩ := rec
    cases ec
    have le' : s.heap.objs.size ≤ h'.objs.size := by omega
    have nc : H c' = none := I.hok.fresh le
    have ne : P ≠ c' := ne_of_none tP nc
    have J := LamX.inv_table (t' := tk) (more := #[rawInt pos.line, rawInt pos.col, .ref c']) (h' := h') I tP
      (fun b o n e => hk b o n e) tb le ⟨oc, vs, t, hoc, ed, ev⟩
    have J2 := J.laid (t' := tk) (h' := h'.push (PySem.W.kla_obj "<lambda>" (X.env.qual ++ "<lambda>") params body scope (cloFrom X.env.cells scope.names []) ((X.mg "__name__").getD .none) c' ctv)) (fun b o e => Heap.get?_push_of_some _ e) (Nat.le_refl _) (obOk (Heap.get?_push_size _ rfl))
    have g : Grown P H (upd (upd H P (.tbl (ps ++ #[rawInt pos.line, rawInt pos.col, .ref c']))) c' (LamX.CodeO c' (X.env.qual ++ "<lambda>"))) :=
      ⟨fun b o e n => by rw [upd_ne (ne_of_none e nc), upd_ne n]; exact e, ⟨_, by rw [upd_ne ne, upd_same]⟩⟩
    have tT : TbsOk (upd (upd H P (.tbl (ps ++ #[rawInt pos.line, rawInt pos.col, .ref c']))) c' (LamX.CodeO c' (X.env.qual ++ "<lambda>"))) := fun q hq => by
      have eL : (ps ++ #[rawInt pos.line, rawInt pos.col, .ref c']).toList = ps.toList ++ [rawInt pos.line, rawInt pos.col, .ref c'] := by simp
      by_cases z : q.1 = P
      · rw [hu q hq z, z]
        refine ⟨_, by rw [upd_ne ne, upd_same], by rw [eL]; exact PySem.TriplesOk_snoc _ _ _ _ tOk, fun p' cv hcv => ?_⟩
        rw [eL] at hcv
        rcases LamX.among_app _ tOk hcv with old | new
        · obtain ⟨c0, e1, e2⟩ := tA p' cv old
          exact ⟨c0, e1, g.at_ _ _ e2 fun y => by rw [y, tP] at e2; cases e2⟩
        · exact ⟨c', new, upd_same⟩
      · obtain ⟨qs, a1, a2, a3⟩ := hT q hq
        refine ⟨qs, g.at_ _ _ a1 z, a2, fun p' cv hcv => ?_⟩
        obtain ⟨c0, e1, e2⟩ := a3 p' cv hcv
        exact ⟨c0, e1, g.at_ _ _ e2 fun y => by rw [y, tP] at e2; cases e2⟩
    have nf : h'.objs.size ≠ c' ∧ h'.objs.size ≠ P := ⟨Nat.ne_of_gt lt, Nat.ne_of_gt (Nat.lt_of_lt_of_le (Heap.lt_size gP) le')⟩
    exact k h'.objs.size c' _ ctv _ _ J2 (g.same tP tT) (by rw [upd_ne nf.1, upd_ne nf.2]; exact I.hok.fresh le') upd_same
end
/-- a lambda is made: where its object and its code object lie -/
def tLamO [Tn] (q : Str) (params : Arguments) (body : Expr) (scope : Scope) : TE := fun _ H Q => TbsOk H ∧ ∀ (f c' : Addr) (cl : List (Str × Addr)) (pm ctv : Value) (H2 : Hp), Same H H2 → H f = none → H2 f = some (ObF f (PySem.W.kla_obj "<lambda>" q params body scope cl pm c' ctv)) → H2 c' = some (LamX.CodeO c' q) → Q (.ref f) H2
theorem pe_lamO [Tn] {X : Cx} {c P : Addr} {params : Arguments} {body : Expr} {scope : Scope} {pos : Pos} (B : LamX.TabB X.base X.mg c P) (hc : X.env.code = .ref c)
    (hm : (P, X.env.qual ++ "<lambda>") ∈ Tn.t) (hu : ∀ p ∈ Tn.t, p.1 = P → p.2 = X.env.qual ++ "<lambda>") (hd : defaultsOf params X.env = ([], [])) (hf : ∀ y ∈ scope.names, y.2 = .free → False) :
    PE X (.Lambda params body scope pos) (tLamO (X.env.qual ++ "<lambda>") params body scope) :=
  ⟨fun _ _ _ _ _ I h => lam_mkO I B hc hm hu h.1 hd (fun y hy e => (hf y hy e).elim) fun f c' pm ctv H' s' I' sm n hco => ⟨.ref f, _, I', rfl, h.2 f c' _ pm ctv _ (sm.trans (Same.new n)) (sm.free n) upd_same ((upd_ne (ne_of_none hco n)).trans hco)⟩⟩
/-- lambda t: t[i] -/
structure IxLam (params : Arguments) (body : Expr) (scope : Scope) (t : Str) (i : Nat) : Prop where
  body_ : ∃ p1 j p2 p3, body = .Subscript (.Name t p1) (.Constant (.int (i : Int)) j p2) p3
  kind : scope.kind = .function
  co : scope.isCoroutine = false
  gen : scope.isGenerator = false
  nocell : ∀ y ∈ scope.names, y.2 ≠ .cell
  tl : scope.names.lookup t = some .local
  bind : ∀ (q : Str) (cl : List (Str × Addr)) (pm cv ctv u : Value), bindArgs (PySem.W.kla_fn "<lambda>" q params body scope cl pm cv ctv) ⟨[u], []⟩ = pure [(t, u)]
  dbg : (t == ("__debug__" : Str)) = false
  few : i ≤ 100
/-- sorted(xs, key=lambda t: t[i]): the rows in the order of these ints, equal ones as before -/
def rSortIx (K : PySem.W.Frag) : List V → List V → Hp → VK → Prop := fun vs zs H Q => ∃ (a f c' : Addr) (xs : List V) (q t : Str) (i : Nat) (params : Arguments) (body : Expr) (scope : Scope) (cl : List (Str × Addr)) (pm ctv : Value) (kf : V → Int), vs = [V.ref a] ∧ zs = [V.ref f] ∧ (SqL K H a xs ∨ SqT K H a xs) ∧
  H f = some (ObF f (PySem.W.kla_obj "<lambda>" q params body scope cl pm c' ctv)) ∧ H c' = some (LamX.CodeO c' q) ∧ IxLam params body scope t i ∧ (∀ x, x ∈ xs → ∃ (tt : Addr) (ys : List V), x = .ref tt ∧ H tt = some (.tup ys) ∧ ys[i]? = some (.int (kf x))) ∧
  ∀ p, H p = none → Q (.ref p) (upd H p (.lst (xs.mergeSort fun x y => decide (kf x ≤ kf y))))
theorem each_refs {R : Value → V → Prop} : ∀ {xs : List V} {us : List Value}, Vals xs us → (∀ x u, x ∈ xs → RelV x u → R u x) → PySem.W.EachIs R us xs
  | [], us, r, _ => by cases r; exact .nil
  | x :: xs, us, r, h => by
    cases r with
    | cons a b => exact .cons (h _ _ (List.mem_cons_self ..) a) (each_refs b fun y u hy => h y u (List.mem_cons_of_mem _ hy))
theorem each_vals {R : Value → V → Prop} : ∀ {xs : List V} {us : List Value}, PySem.W.EachIs R us xs → (∀ x u, R u x → RelV x u) → Vals xs us
  | [], us, r, _ => by cases r; exact .nil
  | x :: xs, us, r, h => by
    cases r with
    | cons a b => exact .cons (h _ _ a) (each_vals b h)
section
open PySem.Spec PyProof.Rows PySem.W PySem.Calls
variable {prog : Program} {w : World} {A : Around} {E : Value → Shared → Prop} {s : Shared}
theorem collect_tup {l : Addr} {vs : List Value} {Q : List Value → Shared → Prop} (hl : IsTup s.heap l vs.toArray)
    (h : Q vs { s with heap := (s.heap.push (seqObj "list" #[] 0)).update s.heap.objs.size (Obj.mapSeq (· ++ vs.toArray)) }) (hsz : vs.length ≤ sizeLine) :
    wpAny (model prog w) A (collect (.ref l)) Q E s := by
  obtain ⟨o, ho, hc, n, hd⟩ := id hl
  unfold collect
  refine wpAny_bind (wpAny_runValue (codeAny_builtin entry_proto_collect' ?_))
  show wpAny _ _ (do again (.builtin "list.__iadd__" ⟨[← newList [], .ref l], []⟩)) _ _ s
  refine wpAny_bind (wpAny_newList (wpAny_pure ⟨Code.quiet_builtin _ (by decide +kernel), codeAny_builtin entry_list_iadd' ?_⟩))
  show wpAny _ _ (Builtin.List.listExtendWith (.ref s.heap.objs.size) (.ref l) (.ref s.heap.objs.size)) _ _ { s with heap := s.heap.push (seqObj "list" #[] 0) }
  unfold Builtin.List.listExtendWith
  have ho' : (s.heap.push (seqObj "list" #[] 0)).get? l = some o := Heap.get?_push_of_some _ ho
  refine wpAny_bind (wpAny_typeOf (T := "tuple") ⟨o, ho', hc⟩ ?_)
  have ht : (Value.type "tuple" == Value.type "tuple") = true := by rfl
  rw [if_pos (by rw [ht]; simp)]
  refine wpAny_bind (listItems_at ho' hd ?_)
  refine wpAny_bind (listItems_at (xs := #[]) (n := 0) (Heap.get?_push_size _ rfl) rfl ?_)
  rw [if_neg (by simp)]
  refine wpAny_bind (listUpdate_at (xs := #[]) (n := 0) (Heap.get?_push_size _ rfl) rfl ?_ (Nat.zero_le _) (by show (#[] ++ vs.toArray).size ≤ sizeLine + 1; simp only [Array.size_append, List.size_toArray, List.length_nil]; omega))
  refine wpAny_pure ?_
  show wpAny (model prog w) A (do
      let o ← load s.heap.objs.size
      match o.data with
      | .seq xs _ => pure xs.toList
      | _ => unsupported "internal:collect") Q E { s with heap := (s.heap.push (seqObj "list" #[] 0)).update s.heap.objs.size (Obj.mapSeq (· ++ vs.toArray)) }
  refine wpAny_bind (wpAny_load (get?_update_seq (Heap.get?_push_size _ rfl) _) ?_)
  show wpAny _ _ (pure ((#[] : Array Value) ++ vs.toArray).toList) Q E _
  rw [show ((#[] : Array Value) ++ vs.toArray).toList = vs by simp]
  exact wpAny_pure h
theorem sorted_of_tup {l : Addr} {vs : List Value} {kw : List (Str × Value)} {Q : Value → Shared → Prop} (hl : s.heap.IsList l vs.toArray ∨ IsTup s.heap l vs.toArray) (hL : vs.length ≤ sizeLine) (ha1 : argsOk "sorted" ⟨[.ref l], kw⟩) (ha2 : ∀ x, argsOk "list.sort" ⟨[.ref x], kw⟩)
    (body : ∀ E' : Value → Shared → Prop, wpAny (model prog w) A.in1.in1 (Builtin.«list.sort» ⟨[.ref (s.heap.objs.size + 1)], kw⟩) (fun f s' => f = .done (.ret .none) ∧ Q (.ref (s.heap.objs.size + 1)) s') E' { s with heap := copyHeap s.heap vs }) :
    wpAny (model prog w) A (call (.builtin "sorted") [.ref l] kw) Q E s := by
  refine call_function_entry_kw kind_sorted plain_sorted entry_sorted ha1 ?_
  unfold Builtin.«sorted»
  refine wpAny_bind (m := checkCount "sorted" 1 1 _) (wpAny_pure ?_)
  have col : ∀ {Q : List Value → Shared → Prop} {E : Value → Shared → Prop} {A : Around}, Q vs { s with heap := (s.heap.push (seqObj "list" #[] 0)).update s.heap.objs.size (Obj.mapSeq (· ++ vs.toArray)) } → wpAny (model prog w) A (collect (.ref l)) Q E s := fun h => hl.elim (fun z => collect_list z h hL) fun z => collect_tup z h hL
  refine wpAny_bind (col ?_)
  refine wpAny_bind (wpAny_newList ?_ hL)
  have hsz : ((s.heap.push (seqObj "list" #[] 0)).update s.heap.objs.size (Obj.mapSeq (· ++ vs.toArray))).objs.size = s.heap.objs.size + 1 := by
    rw [Heap.size_update, size_push']
  show wpAny _ _ _ _ _ { s with heap := copyHeap s.heap vs }
  rw [hsz]
  refine wpAny_bind (wpAny_holding (wpAny_call_entry_kw slot_list_sort ⟨_, copyHeap_at s.heap vs, rfl⟩ entry_list_sort ?body (ha2 _)))
  case body =>
    show wpAny (model prog w) A.in1.in1 (Builtin.«list.sort» ⟨[.ref (s.heap.objs.size + 1)], kw⟩) _ _ _
    refine wpAny_mono (body _) (fun f s' hf => ?_) fun _ _ e => e
    obtain ⟨rfl, hq⟩ := hf
    exact ⟨_, rfl, wpAny_pure ⟨_, rfl, hq⟩⟩
theorem sorted_key_seq {β : Type} {R : Value → β → Prop} {vs : List Value} {bs : List β} {l : Addr} {f : Value} {kw : List (Str × Value)} {b : Bool} {Q : Value → Shared → Prop} (k : β → PyData) (hl : s.heap.IsList l vs.toArray ∨ IsTup s.heap l vs.toArray) (e : EachIs R vs bs) (hal : AllAlike (bs.map k)) (hk : Sortable (bs.map k)) (hL : bs.length ≤ sizeLine)
    (hu : ∀ x, x ∈ bs → A.units + 2 + (k x).depth < cLine) (ha1 : argsOk "sorted" ⟨[.ref l], kw⟩) (ha2 : ∀ x, argsOk "list.sort" ⟨[.ref x], kw⟩) (ht : ∀ x, Builtin.«list.sort» ⟨[.ref x], kw⟩ = ksk_tree x f b)
    (turn : ∀ (v : Value) (x : β), R v x → x ∈ bs → ∀ (h : Heap) (tk : Nat), (∀ b o, s.heap.get? b = some o → h.get? b = some o) →
      wpAny (model prog w) A.in1.in1 (call f [v]) (KeyPure (k x) { s with heap := h, toks := tk }) (fun _ _ => False) { s with heap := h, toks := tk })
    (h : ∀ out c h' tk, (∀ b o, s.heap.get? b = some o → h'.get? b = some o) → s.heap.get? (s.heap.objs.size + 1) = none → h'.get? (s.heap.objs.size + 1) = some (seqObj "list" (List.toArray out) c) → out.length = bs.length → EachIs R out (bs.mergeSort (dataLe b k)) →
      Q (.ref (s.heap.objs.size + 1)) { s with heap := h', toks := tk }) :
    wpAny (model prog w) A (call (.builtin "sorted") [.ref l] kw) Q E s := by
  have fresh : s.heap.get? (s.heap.objs.size + 1) = none := Heap.get?_none_of_le (Nat.le_succ _)
  have up : ∀ {g : Heap}, KeepsBut (s.heap.objs.size + 1) (copyHeap s.heap vs) g → ∀ b o, s.heap.get? b = some o → g.get? b = some o := fun {g} kp b o q =>
    kp b o (Nat.ne_of_lt (Nat.lt_succ_of_lt (Heap.lt_size q))) (copyHeap_old q)
  refine sorted_of_tup hl (by rw [e.length]; exact hL) ha1 ha2 fun E' => ?_
  rw [ht]
  refine keyH_tree (kz := bs.map k) (s := { s with heap := copyHeap s.heap vs }) (copyHeap_at s.heap vs) (by rw [List.length_map]; exact e.length.symm) (by rw [e.length]; exact hL) hal hk (bound_map (A := A.in1.in1) hu)
    (keyH_turns (s := { s with heap := copyHeap s.heap vs }) e fun v x hR hx h tk kp => turn v x hR hx h tk (up kp)) fun h' tk out c kp hD ko => ⟨rfl, ?_⟩
  exact h out c h' tk (up kp) fresh hD ((ko.length (by rw [List.length_map]; exact e.length.symm)).trans e.length) (keyedOut_each k ko e)
end
open PySem.Spec PyProof.Rows in
theorem cr_sortedIx {X : Cx} {k : Nat} (hr : Room (k + 4) X.A) : CallRK X (.builtin "sorted") [Str.ofString "key"] (rSortIx X.K) := by
  intro pins s σ H vs zs us ws Q I r rz h
  obtain ⟨a, f, c', xs, q, t, i, params, body, scope, cl, pm, ctv, kf, rfl, rfl, hs, hf, hco, L, hx, qq⟩ := h
  obtain ⟨its, rv, hl, hz⟩ : ∃ its, Vals xs its ∧ (s.heap.IsList a its.toArray ∨ IsTup s.heap a its.toArray) ∧ xs.length ≤ sizeLine := by
    rcases hs with hs | hs
    · obtain ⟨its, rv, hl, hz⟩ := I.list hs
      exact ⟨its, rv, .inl hl.isList, hz⟩
    · obtain ⟨its, rv, hl, hz⟩ := I.tuple hs
      exact ⟨its, rv, .inr hl, hz⟩
  obtain rfl := Vals.ref1 r
  obtain ⟨w1, rfl, e1⟩ := vals1 rz
  obtain rfl : w1 = Value.ref f := e1
  have of0 : s.heap.get? f = some (PySem.W.kla_obj "<lambda>" q params body scope cl pm c' ctv) := (I.hok f _ hf).1
  obtain ⟨⟨oc, cvs, tq, hoc, hdc, hvc⟩, _, _⟩ := I.hok c' _ hco
  have he : PySem.W.EachIs (fun (v : Value) (x : V) => RelV x v ∧ x ∈ xs) its xs := each_refs rv fun x u hx hr => ⟨hr, hx⟩
  show wpAny _ _ (call (.builtin "sorted") [.ref a] [(Str.ofString "key", .ref f)]) _ _ _
  refine sorted_key_seq (b := false) (fun x : V => .int (kf x)) hl he ?_ ?_ hz (fun x _ => ?_) (PyProof.Rows.ksk_s1 _ _) (fun _ => PyProof.Rows.ksk_l1 _ _) (fun _ => PyProof.Rows.ksk_t1 _ _) (fun v x ⟨hR, hxm⟩ _ h tk kp => ?_) fun out c h' tk kp hn hD hlen eo => ?_
  · exact PySem.W.AllAlike.of fun _ _ => rfl
  · exact PySem.W.Sortable.others fun b => ⟨fun z => (nomatch z), fun _ z => (nomatch z)⟩
  · have := hr.units
    show X.A.units + 2 + 0 < cLine
    omega
  · obtain ⟨tt, ys, rfl, htt, hk⟩ := hx x hxm
    obtain rfl : v = Value.ref tt := hR
    obtain ⟨_, tits, rt, o, ho, hcl, tn, hdt⟩ := I.hok tt _ htt
    obtain ⟨zv, ez, rz2⟩ := rt.get hk
    obtain ⟨tkz, rfl⟩ := rz2
    obtain ⟨p1, j, p2, p3, rfl⟩ := L.body_
    refine wpAny_call ?_
    refine PySem.W.kla_callFunE (show X.A.in1.in1.depth < recursionLimit from hr.depth) (kp _ _ of0) rfl L.co L.gen rfl ⟨c', oc, cvs, tq, rfl, kp _ _ hoc, hdc, hvc⟩ ?_
    rw [L.bind]
    refine wpAny_pure (wpAny_newFunctionEnv L.nocell (fun y hy => ?_) (fun h₁ hns hsb => ⟨(I.nolimit.keeps kp).fresh _ hsb, ?_⟩) L.kind)
    · obtain rfl : y = (t, Value.ref tt) := by simpa using hy
      exact L.tl
    · have kp1 : ∀ b o, h.get? b = some o → h₁.get? b = some o := fun b o e => hsb.extBut b o (Nat.ne_of_lt (Heap.lt_size e)) (Heap.get?_push_of_some _ e)
      refine PySem.W.kla_codeExpr ?_
      refine Subscript_ (wpAny_Name (wpAny_loadName_local (v := .ref tt) L.kind L.tl hns (by simp) ?_) L.dbg)
      refine wpAny_Constant_int ?_
      have ft : IsTup h₁ tt tits.toArray := ⟨o, kp1 _ _ (kp _ _ ho), hcl, tn, hdt⟩
      have hlen : i < tits.length := by
        have := (List.getElem?_eq_some_iff.mp hk).1
        have := rt.length
        omega
      have few := L.few
      refine subscriptTail_builtinR (x := .int (kf (.ref tt)) tkz) ft.typeIs slot_tuple_getitem.lookup
        (getItem_tuple (j := i) ft (by omega) (by omega) ?_ (by simpa using ez) ⟨rfl, ?_⟩) (by rfl)
      · rw [List.size_toArray]
        rw [seqIndex_of (by omega) (by omega)]
        rfl
      · exact ⟨h₁, _, rfl, kp1, .int _ _⟩
  · rw [PySem.W.dataLe_int] at eo
    have vals := each_vals eo fun x u hh => hh.1
    have hl2 : (xs.mergeSort fun x y => decide (kf x ≤ kf y)).length ≤ sizeLine := by
      rw [List.length_mergeSort]
      exact hz
    exact ⟨.ref _, upd H (s.heap.objs.size + 1) (.lst (xs.mergeSort fun x y => decide (kf x ≤ kf y))), I.laid (t' := tk) kp (Nat.le_succ _) ⟨hl2, out, c, vals, hD⟩, rfl, qq _ (I.hok.fresh (Nat.le_succ _))⟩

/-! ### rows in the order of their starts -/
theorem r_lamO [Tn] {q : Str} {params : Arguments} {body : Expr} {scope : Scope} {σ : St} {H : Hp} {Q : VK} (hT : TbsOk H) (k : ∀ (f c' : Addr) (cl : List (Str × Addr)) (pm ctv : Value) (H2 : Hp), Same H H2 → H f = none → H2 f = some (ObF f (PySem.W.kla_obj "<lambda>" q params body scope cl pm c' ctv)) → H2 c' = some (LamX.CodeO c' q) → Q (.ref f) H2) : tLamO q params body scope σ H Q := ⟨hT, k⟩
def ByStart (ss : List L3) : Prop := ss.Pairwise fun l m => l.2.2 ≤ m.2.2
def spByStart : Sp := fun vs H Q _ => ∃ (p : Addr) (xs : List V) (rs : List L3), vs = [.ref p] ∧ SeqV H p xs ∧ TrisAt H xs rs ∧ TbsOk H ∧ ∀ (q : Addr) (ys : List V) (ss : List L3) (H' : Hp), Same H H' → H q = none → H' q = some (.lst ys) → TrisAt H' ys ss → ss.Perm rs → ByStart ss → Q (.ref q) H'
theorem TrisAt.mem {H : Hp} {xs : List V} {ls : List L3} {x : V} (h : TrisAt H xs ls) (hx : x ∈ xs) : ∃ (t : Addr) (l : L3), x = .ref t ∧ l ∈ ls ∧ H t = some (.tup (triV l)) := by
  obtain ⟨i, hi⟩ := List.mem_iff_getElem?.mp hx
  obtain ⟨t, l, e, hl, et⟩ := h.get hi
  exact ⟨t, l, e, List.mem_iff_getElem?.mpr ⟨i, hl⟩, et⟩
theorem TrisAt.perm {H : Hp} : ∀ {xs ys : List V} {ls : List L3}, ys.Perm xs → TrisAt H xs ls → ∃ ms, TrisAt H ys ms ∧ ms.Perm ls := fun {xs ys ls} p => by
  intro h
  induction p generalizing ls with
  | nil =>
    obtain rfl : ls = [] := List.eq_nil_of_length_eq_zero h.1.symm
    exact ⟨[], h, List.Perm.refl _⟩
  | @cons x l1 l2 p ih =>
    cases ls with
    | nil => exact absurd h.1 (by simp)
    | cons l ls =>
      obtain ⟨t, e, et⟩ := h.2 0 l rfl
      have h' : TrisAt H l2 ls := ⟨by have := h.1; simpa using this, fun i g hg => h.2 (i + 1) g hg⟩
      obtain ⟨ms, hm, pm⟩ := ih h'
      refine ⟨l :: ms, ⟨by simp [hm.1], fun i g hg => ?_⟩, pm.cons _⟩
      cases i with
      | zero => obtain rfl := Option.some.inj hg; exact ⟨t, e, et⟩
      | succ i => exact hm.2 i g hg
  | @swap x y l2 =>
    match ls, h with
    | [], h => exact absurd h.1 (by simp)
    | [_], h => exact absurd h.1 (by simp)
    | a :: b :: ls, h =>
      obtain ⟨t, e, et⟩ := h.2 0 a rfl
      obtain ⟨t2, e2, et2⟩ := h.2 1 b rfl
      refine ⟨b :: a :: ls, ⟨by have := h.1; simpa using this, fun i g hg => ?_⟩, List.Perm.swap _ _ _⟩
      match i, hg with
      | 0, hg => obtain rfl := Option.some.inj hg; exact ⟨t2, e2, et2⟩
      | 1, hg => obtain rfl := Option.some.inj hg; exact ⟨t, e, et⟩
      | i + 2, hg => exact h.2 (i + 2) g hg
  | trans p1 p2 ih1 ih2 =>
    obtain ⟨ms, hm, pm⟩ := ih2 h
    obtain ⟨ns, hn, pn⟩ := ih1 hm
    exact ⟨ns, hn, pn.trans pm⟩
section
variable {P : Program} {w : World} {K : PySem.W.Frag} {mg : Str → Option Value} {base : Heap} {a : Adr}
/-- the start of a row -/
noncomputable def startV (H : Hp) (x : V) : Int := match x with
  | .ref t => match H t with
    | some (.tup [_, _, .int s]) => s
    | _ => 0
  | _ => 0
theorem ok_by_start (T : Txt K mg base a) : FnOk P w K mg base CX0 5 a.a_by_start a.d_by_start ["rows"] spByStart := by
  refine T.F_by_start.ok sc_by_start (fun vs H Q E h => ?_) (fun A outer s H vs Q E hr h => ?_)
  · obtain ⟨p, xs, rs, rfl, _⟩ := h
    rfl
  · obtain ⟨p, xs, rs, rfl, ep, hA, hT, k⟩ := h
    refine ⟨_, (pss_one (ps_ret (pe_callBK (cr_sortedIx (k := 0) (hr.mono (by decide))) (by rfl) T.n_sorted (by decide +kernel) (pa_cons (pv 0) pa_nil) (pk_cons (pe_lamO T.B_by_start rfl T.tn_by_start T.tu_by_start rfl (by decide +kernel)) pk_nil)))), ?_⟩
    repeat first | walk_at "rd" | refine r_CKw ?_
    refine r_lamO hT (fun f c' cl pm ctv H2 s12 nf ef hco2 => ?_)
    have hA2 := hA.keep s12
    repeat first | walk_at "rd" | refine r_CKw ?_
    refine ⟨p, f, c', xs, _, "row", 2, _, _, _, cl, pm, ctv, startV H2, rfl, rfl, (ep.keep s12).sq, ef, hco2, ⟨⟨_, _, _, _, rfl⟩, rfl, rfl, rfl, by decide +kernel, by decide +kernel, fun q cl pm cv ctv u => rfl, by decide +kernel, by decide⟩, fun x hx => ?_, fun q nq => ?_⟩
    · obtain ⟨t, l, rfl, _, et⟩ := hA2.mem hx
      refine ⟨t, _, rfl, et, ?_⟩
      show some (V.int l.2.2) = some (V.int (startV H2 (.ref t)))
      unfold startV
      dsimp only
      rw [et]
      rfl
    · have pm2 : (xs.mergeSort fun x y => decide (startV H2 x ≤ startV H2 y)).Perm xs := List.mergeSort_perm _ _
      obtain ⟨ss, hss, ps⟩ := TrisAt.perm pm2 hA2
      have srt : (xs.mergeSort fun x y => decide (startV H2 x ≤ startV H2 y)).Pairwise fun x y => decide (startV H2 x ≤ startV H2 y) = true := List.pairwise_mergeSort (le := fun x y => decide (startV H2 x ≤ startV H2 y)) (fun a b c h1 h2 => decide_eq_true (Int.le_trans (of_decide_eq_true h1) (of_decide_eq_true h2))) (fun a b => by
        rcases Int.le_total (startV H2 a) (startV H2 b) with h | h
        · rw [decide_eq_true h]; rfl
        · rw [decide_eq_true h, Bool.or_true]) xs
      generalize (xs.mergeSort fun x y => decide (startV H2 x ≤ startV H2 y)) = ys at pm2 hss srt ⊢
      have s3 : Same H2 (upd H2 q (.lst ys)) := Same.new nq
      have fin := k q ys ss _ (s12.trans s3) (s12.free nq) upd_same (hss.keep s3) ps (by
        unfold ByStart
        rw [List.pairwise_iff_getElem] at srt ⊢
        intro i j hi hj hij
        have hl := hss.1
        have h := of_decide_eq_true (srt i j (by omega) (by omega) hij)
        obtain ⟨t1, e1, et1⟩ := hss.2 i ss[i] (List.getElem?_eq_getElem hi)
        obtain ⟨t2, e2, et2⟩ := hss.2 j ss[j] (List.getElem?_eq_getElem hj)
        rw [List.getElem?_eq_getElem (by omega)] at e1 e2
        rw [Option.some.inj e1, Option.some.inj e2] at h
        unfold startV at h
        dsimp only at h
        rw [et1, et2] at h
        exact h)
      repeat first | exact fin | walk_at "rd"
end

/-! ### the names that the hands have by a plan -/
/-- what of a right plan the names rest on -/
structure RightQ (D G n : Int) (rs : List L3) : Prop where
  len : (rs.length : Int) = n - 1
  hands : ∀ l, l ∈ rs → (0 ≤ l.1 ∧ l.1 < n) ∧ (1 ≤ l.2.1 ∧ l.2.1 < n) ∧ l.1 ≠ l.2.1
  nodup : (recvs rs).Nodup
  all : ∀ x : Int, 1 ≤ x → x < n → x ∈ recvs rs
  known : ∀ l, l ∈ rs → l.1 ≠ 0 → ∃ m, m ∈ rs ∧ m.2.1 = l.1 ∧ m.2.2 + D ≤ l.2.2
  gaps : ∀ l m, l ∈ rs → m ∈ rs → l.1 = m.1 → l.2.1 ≠ m.2.1 → l.2.2 + G ≤ m.2.2 ∨ m.2.2 + G ≤ l.2.2
theorem RightP.q {D G n most : Int} {rs : List L3} (h : RightP D G n most rs) : RightQ D G n rs := ⟨h.len, h.hands, h.nodup, h.all, h.known, h.gaps⟩
/-- the number of a row among those of its sender, by their starts -/
def idxOf (rs : List L3) (l : L3) : Nat := rs.countP fun m => decide (m.1 = l.1 ∧ m.2.2 < l.2.2)
def timeN (D G : Int) (ns : List Int) : Int := ((ns.length : Int) - 1) * D + ns.sum * G
structure NamesOk (D G n : Int) (rs : List L3) (nm : Int → List Int) : Prop where
  zero : nm 0 = [0]
  row : ∀ l, l ∈ rs → nm l.2.1 = nm l.1 ++ [(idxOf rs l : Int)]
  shape : ∀ x, 0 ≤ x → x < n → ∃ zs : List Int, nm x = 0 :: zs ∧ (zs.length : Int) ≤ n - 1 ∧ ∀ z, z ∈ zs → 0 ≤ z ∧ z ≤ n - 1
  early : ∀ l, l ∈ rs → timeN D G (nm l.2.1) ≤ l.2.2 + D
theorem timeN_snoc {D G z : Int} {ns : List Int} : timeN D G (ns ++ [z]) = timeN D G ns + D + z * G := by
  unfold timeN
  rw [List.length_append, List.length_singleton, List.sum_append, List.sum_cons, List.sum_nil, Int.add_zero, Int.add_mul]
  have : (((ns.length + 1 : Nat) : Int) - 1) * D = ((ns.length : Int) - 1) * D + D := by
    rw [show (((ns.length + 1 : Nat) : Int) - 1) = ((ns.length : Int) - 1) + 1 by omega, Int.add_mul, Int.one_mul]
  omega
theorem Hist.names {D G : Int} (hD : 0 < D) (hG : 0 < G) {T : List Int} {sn fr : Int → Int} {ss : List L3} (h : Hist D G T sn fr ss) :
    ∃ nm : Int → List Int, nm 0 = [0] ∧ 0 ∈ T ∧ (∀ l, l ∈ ss → l.1 ∈ T ∧ l.2.1 ∈ T ∧ l.2.2 + G ≤ fr l.1) ∧ (∀ x, x ∈ T → sn x = ((ss.countP fun l => decide (l.1 = x) : Nat) : Int)) ∧
      (∀ l, l ∈ ss → nm l.2.1 = nm l.1 ++ [(idxOf ss l : Int)]) ∧ (∀ x, x ∈ T → ∃ zs : List Int, nm x = 0 :: zs ∧ zs.length ≤ ss.length ∧ ∀ z, z ∈ zs → 0 ≤ z ∧ z ≤ ss.length) ∧
      (∀ x, x ∈ T → timeN D G (nm x) + sn x * G ≤ fr x) ∧ ∀ l, l ∈ ss → timeN D G (nm l.2.1) ≤ l.2.2 + D := by
  induction h with
  | first =>
    refine ⟨fun _ => [0], rfl, List.mem_singleton.mpr rfl, fun l hl => (nomatch hl), fun x _ => rfl, fun l hl => (nomatch hl), fun x _ => ⟨[], rfl, Nat.le_refl _, fun z hz => nomatch hz⟩, fun x _ => ?_, fun l hl => (nomatch hl)⟩
    unfold timeN
    simp
  | @step T sn fr ss x y wt hh hx hy hw ih =>
    obtain ⟨nm, h0, hT, hl, hc, hr, hs, hf, he⟩ := ih
    have xy : x ≠ y := fun e => hy (e ▸ hx)
    have y0 : (0 : Int) ≠ y := fun e => hy (e ▸ hT)
    have ny : ∀ z, z ∈ T → z ≠ y := fun z hz e => hy (e ▸ hz)
    have cnt : ∀ z, ((ss ++ [(x, y, fr x + wt)]).countP fun l => decide (l.1 = z)) = (ss.countP fun l => decide (l.1 = z)) + (if x = z then 1 else 0) := fun z => by
      rw [List.countP_append, List.countP_singleton]
      by_cases c : x = z <;> simp [c]
    have idx : ∀ l, idxOf (ss ++ [(x, y, fr x + wt)]) l = idxOf ss l + (if x = l.1 ∧ fr x + wt < l.2.2 then 1 else 0) := fun l => by
      unfold idxOf
      rw [List.countP_append, List.countP_singleton]
      by_cases c : x = l.1 ∧ fr x + wt < l.2.2
      · rw [if_pos (decide_eq_true c), if_pos c]
      · rw [if_neg (by rw [decide_eq_false c]; exact Bool.false_ne_true), if_neg c]
    have idxO : ∀ l, l ∈ ss → idxOf (ss ++ [(x, y, fr x + wt)]) l = idxOf ss l := fun l hl' => by
      rw [idx l, if_neg]
      · rfl
      · rintro ⟨e1, e2⟩
        have := (hl l hl').2.2
        rw [← e1] at this
        omega
    have idxN : (idxOf (ss ++ [(x, y, fr x + wt)]) (x, y, fr x + wt) : Int) = sn x := by
      rw [idx, if_neg (by simp), hc x hx]
      unfold idxOf
      rw [Nat.add_zero]
      congr 1
      refine List.countP_congr fun m hm => ?_
      have := (hl m hm).2.2
      simp only [decide_eq_true_eq]
      constructor
      · exact fun h => h.1
      · intro e
        rw [e] at this
        exact ⟨e, by omega⟩
    have sn0 : 0 ≤ sn x := by rw [hc x hx]; omega
    have snl : sn x ≤ ss.length := by
      have := List.countP_le_length (p := fun l : L3 => decide (l.1 = x)) (l := ss)
      rw [hc x hx]; omega
    refine ⟨fun z => if z = y then nm x ++ [sn x] else nm z, by dsimp only; rw [if_neg y0]; exact h0, List.mem_append_left _ hT, fun l hl' => ?_, fun z hz => ?_, fun l hl' => ?_, fun z hz => ?_, fun z hz => ?_, fun l hl' => ?_⟩
    · rcases List.mem_append.mp hl' with h | h
      · obtain ⟨a1, a2, a3⟩ := hl l h
        refine ⟨List.mem_append_left _ a1, List.mem_append_left _ a2, ?_⟩
        dsimp only
        rw [if_neg (ny _ a1)]
        split
        · rename_i c; rw [c] at a3; omega
        · exact a3
      · rw [List.mem_singleton] at h; subst h
        refine ⟨List.mem_append_left _ hx, List.mem_append_right _ (List.mem_singleton.mpr rfl), ?_⟩
        dsimp only
        rw [if_neg xy, if_pos rfl]
        exact Int.le_refl _
    · dsimp only
      rw [cnt z]
      by_cases c : z = y
      · rw [if_pos c, c, if_neg xy]
        have : (ss.countP fun l => decide (l.1 = y)) = 0 := List.countP_eq_zero.mpr fun l hl' => by simpa using fun e : l.1 = y => hy (e ▸ (hl l hl').1)
        rw [this]; rfl
      · have hzT : z ∈ T := (List.mem_append.mp hz).resolve_right fun q => c (List.mem_singleton.mp q)
        rw [if_neg c]
        by_cases d : z = x
        · rw [if_pos d, if_pos d.symm, d, hc x hx]; omega
        · rw [if_neg d, if_neg (fun e => d e.symm), hc z hzT]; rfl
    · dsimp only
      rcases List.mem_append.mp hl' with h | h
      · obtain ⟨a1, a2, a3⟩ := hl l h
        rw [if_neg (ny _ a2), if_neg (ny _ a1), idxO l h]
        exact hr l h
      · rw [List.mem_singleton] at h; subst h
        dsimp only
        rw [if_pos rfl, if_neg xy, idxN]
    · dsimp only
      have ll : (ss ++ [(x, y, fr x + wt)]).length = ss.length + 1 := by rw [List.length_append]; rfl
      rw [ll]
      by_cases c : z = y
      · rw [if_pos c]
        obtain ⟨zs, e1, e2, e3⟩ := hs x hx
        refine ⟨zs ++ [sn x], by rw [e1]; rfl, by rw [List.length_append]; exact Nat.succ_le_succ e2, fun u hu => ?_⟩
        rcases List.mem_append.mp hu with hu | hu
        · have := e3 u hu; omega
        · rw [List.mem_singleton] at hu; omega
      · rw [if_neg c]
        have hzT : z ∈ T := (List.mem_append.mp hz).resolve_right fun q => c (List.mem_singleton.mp q)
        obtain ⟨zs, e1, e2, e3⟩ := hs z hzT
        exact ⟨zs, e1, by omega, fun u hu => by have := e3 u hu; omega⟩
    · dsimp only
      have fx := hf x hx
      by_cases c : z = y
      · rw [if_pos c, if_pos c, if_pos c, timeN_snoc, Int.zero_mul]
        omega
      · rw [if_neg c, if_neg c, if_neg c]
        have hzT : z ∈ T := (List.mem_append.mp hz).resolve_right fun q => c (List.mem_singleton.mp q)
        by_cases d : z = x
        · rw [if_pos d, if_pos d, d, Int.add_mul, Int.one_mul]
          omega
        · rw [if_neg d, if_neg d]
          exact hf z hzT
    · dsimp only
      rcases List.mem_append.mp hl' with h | h
      · rw [if_neg (ny _ (hl l h).2.1)]
        exact he l h
      · rw [List.mem_singleton] at h; subst h
        dsimp only
        have fx := hf x hx
        rw [if_pos rfl, timeN_snoc]
        omega
theorem idxOf_perm {ss rs : List L3} (p : ss.Perm rs) (l : L3) : idxOf ss l = idxOf rs l := p.countP_eq _
theorem RightP.names {D G n most : Int} {rs : List L3} (h : RightP D G n most rs) (hD : 0 < D) (hG : 0 < G) : ∃ nm, NamesOk D G n rs nm := by
  obtain ⟨T, sn, fr, ss, hh, p, ht⟩ := h.hist
  obtain ⟨nm, h0, hT, hl, hc, hr, hs, hf, he⟩ := hh.names hD hG
  have len : (ss.length : Int) = n - 1 := by rw [p.length_eq]; exact h.len
  refine ⟨nm, h0, fun l hl' => ?_, fun x h1 h2 => ?_, fun l hl' => he l (p.mem_iff.mpr hl')⟩
  · rw [← idxOf_perm p]
    exact hr l (p.mem_iff.mpr hl')
  · have hx : x ∈ T := by
      by_cases c : x = 0
      · rw [c]; exact hT
      · obtain ⟨l, hl', e⟩ := List.mem_map.mp (h.all x (by omega) h2)
        rw [← e]
        exact (hl l (p.mem_iff.mpr hl')).2.1
    obtain ⟨zs, e1, e2, e3⟩ := hs x hx
    exact ⟨zs, e1, by omega, fun z hz => by have := e3 z hz; omega⟩
/-- rows in the order of their starts: each behind the row that tells its sender, and numbered -/
theorem RightQ.order {D G n : Int} {rs ss : List L3} (h : RightQ D G n rs) (hD : 0 < D) (hG : 0 < G) (p : ss.Perm rs) (hs : ss.Pairwise fun l m => l.2.2 ≤ m.2.2) {i : Nat} {l : L3} (hl : ss[i]? = some l) :
    (l.1 = 0 ∨ l.1 ∈ recvs (ss.take i)) ∧ ((ss.take i).countP fun m => decide (m.1 = l.1)) = idxOf rs l ∧ l.2.1 ∉ recvs (ss.take i) := by
  have hi := (List.getElem?_eq_some_iff.mp hl).1
  have hlm : l ∈ rs := p.mem_iff.mp (List.mem_iff_getElem?.mpr ⟨i, hl⟩)
  have hsl := (List.getElem?_eq_some_iff.mp hl).2
  have nd : (recvs ss).Nodup := (List.Perm.nodup_iff (show (recvs ss).Perm (recvs rs) from p.map _)).mpr h.nodup
  have pre : ∀ m, m ∈ ss.take i → m.2.2 ≤ l.2.2 ∧ m.2.1 ≠ l.2.1 := fun m hm => by
    obtain ⟨j, hj⟩ := List.mem_iff_getElem?.mp hm
    have hji : j < i := by
      have := (List.getElem?_eq_some_iff.mp hj).1
      rw [List.length_take] at this; omega
    rw [List.getElem?_take, if_pos hji] at hj
    obtain ⟨j1, j2⟩ := List.getElem?_eq_some_iff.mp hj
    refine ⟨by have := List.pairwise_iff_getElem.mp hs j i j1 hi hji; rw [j2, hsl] at this; exact this, fun e => ?_⟩
    have := List.pairwise_iff_getElem.mp nd j i (by unfold recvs; rw [List.length_map]; exact j1) (by unfold recvs; rw [List.length_map]; exact hi) hji
    unfold recvs at this
    rw [List.getElem_map, List.getElem_map, j2, hsl] at this
    exact this e
  have post : ∀ m, m ∈ ss.drop i → l.2.2 ≤ m.2.2 := fun m hm => by
    obtain ⟨j, hj⟩ := List.mem_iff_getElem?.mp hm
    rw [List.getElem?_drop] at hj
    obtain ⟨j1, j2⟩ := List.getElem?_eq_some_iff.mp hj
    by_cases c : j = 0
    · subst c
      rw [show i + 0 = i from rfl] at hj
      rw [hl] at hj
      rw [← Option.some.inj hj]
      exact Int.le_refl _
    · have := List.pairwise_iff_getElem.mp hs i (i + j) hi j1 (by omega)
      rw [j2, hsl] at this
      exact this
  refine ⟨?_, ?_, fun z => ?_⟩
  · by_cases c : l.1 = 0
    · exact .inl c
    · right
      obtain ⟨m, hm, e1, e2⟩ := h.known l hlm c
      have hm' := p.mem_iff.mpr hm
      rw [← List.take_append_drop i ss] at hm'
      rcases List.mem_append.mp hm' with q | q
      · rw [← e1]; exact recvs_mem q
      · have := post m q; omega
  · rw [← idxOf_perm p]
    unfold idxOf
    conv => rhs; rw [← List.take_append_drop i ss]
    rw [List.countP_append]
    have e2 : ((ss.drop i).countP fun m => decide (m.1 = l.1 ∧ m.2.2 < l.2.2)) = 0 := List.countP_eq_zero.mpr fun m hm => by
      have := post m hm
      simp only [decide_eq_true_eq]
      omega
    rw [e2, Nat.add_zero]
    refine List.countP_congr fun m hm => ?_
    obtain ⟨a1, a2⟩ := pre m hm
    have hmr : m ∈ rs := p.mem_iff.mp (List.mem_of_mem_take hm)
    simp only [decide_eq_true_eq]
    constructor
    · intro e
      refine ⟨e, ?_⟩
      rcases h.gaps m l hmr hlm e a2 with g | g <;> omega
    · exact fun e => e.1
  · obtain ⟨m, hm, e⟩ := List.mem_map.mp z
    exact (pre m hm).2 e

/-! ### the end of rows -/
def IsEnd (rs : List L3) (D e : Int) : Prop := (rs = [] ∧ e = 0) ∨ ((∃ l, l ∈ rs ∧ e = l.2.2 + D) ∧ ∀ l, l ∈ rs → l.2.2 + D ≤ e)
def spRefuse : Sp := fun vs H Q _ => vs = [.non] ∧ Q .non H
def spEndOf : Sp := fun vs H Q _ => ∃ (p : Addr) (D : Int) (xs : List V) (rs : List L3), vs = [.ref p, .int D] ∧ SeqV H p xs ∧ TrisAt H xs rs ∧ rs.length ≤ 400 ∧ ∀ e H', Same H H' → IsEnd rs D e → Q (.int e) H'
def spEnds (M : Addr) : Sp := fun vs H Q _ => ∃ (m p : Addr) (o l g n : Int) (xs : List V) (rs : List L3), vs = [.ref m, .int n, .ref p] ∧ MachAt M H m o l g ∧ 0 ≤ gapOf o g ∧ gapOf o g < 2 ^ 64 ∧ (1 ≤ n ∧ n ≤ 100) ∧ SeqV H p xs ∧ TrisAt H xs rs ∧ rs.length ≤ 400 ∧ faultF (2 * o + l) (gapOf o g) n rs = none ∧ ∀ e H', Same H H' → IsEnd rs (2 * o + l) e → Q (.int e) H'
section
variable {P : Program} {w : World} {K : PySem.W.Frag} {mg : Str → Option Value} {base : Heap} {a : Adr}
theorem ok_refuse (T : Txt K mg base a) : FnOk P w K mg base CX0 1 a.a_refuse a.d_refuse ["wrong"] spRefuse := by
  refine T.F_refuse.ok sc_refuse (fun vs H Q E h => ?_) (fun cdv A outer s H vs Q E hr h => ?_)
  · obtain ⟨rfl, _⟩ := h
    rfl
  · obtain ⟨rfl, k⟩ := h
    refine ⟨_, (pss_one (ps_if (pt_cmpR op_notNo (pv 0) pe_non (nomark _)) (pss_cons (ps_asg (pv 0) (pg_tup (by rfl) (pgs_cons (pg_name (i := 1) sc_refuse.nd rfl (Or.inl rfl)) (pgs_cons (pg_name (i := 2) sc_refuse.nd rfl (Or.inl rfl)) pgs_nil))))
 (pss_one ps_never))
 pss_nil)), ?_⟩
    repeat first | exact k | walk_at "rd" | walk_at "rdi"
end

/-! ### walks within a comprehension: the written part named -/
theorem pi_listK {K : PySem.W.Frag} {X : Cx} {tg l : Expr} {tl : TE} (hK : X.K = K) (hl : PE X l tl) : PI X tg l (iList K tl) := hK ▸ pi_list hl
theorem pi_tupK {K : PySem.W.Frag} {X : Cx} {tg l : Expr} {tl : TE} (hK : X.K = K) (hl : PE X l tl) : PI X tg l (iTup K tl) := hK ▸ pi_tup hl
theorem pi_seqK {K : PySem.W.Frag} {X : Cx} {tg l : Expr} {tl : TE} (hK : X.K = K) (hl : PE X l tl) : PI X tg l (iSeq K tl) := hK ▸ pi_seq hl

/-! ### names_of -/
def NmsAt (H : Hp) (ys : List V) (n : Int) (nm : Int → List Int) : Prop := (ys.length : Int) = n ∧ ∀ h : Nat, (h : Int) < n → ∃ t : Addr, ys[h]? = some (.ref t) ∧ H t = some (.tup ((nm h).map V.int))
theorem NmsAt.keep {H H' : Hp} {ys : List V} {n : Int} {nm : Int → List Int} (h : NmsAt H ys n nm) (s : Same H H') : NmsAt H' ys n nm := ⟨h.1, fun i hi => let ⟨t, e, z⟩ := h.2 i hi; ⟨t, e, s _ _ z⟩⟩
theorem NmsAt.but {H H' : Hp} {ys : List V} {n : Int} {nm : Int → List Int} {p q : Addr} (h : NmsAt H ys n nm) (hs : SrcAt H p q) (b : But p H H') : NmsAt H' ys n nm := ⟨h.1, fun i hi => let ⟨t, e, z⟩ := h.2 i hi; ⟨t, e, tup_but z hs b⟩⟩
theorem NmsAt.updL {H : Hp} {L : Addr} {zs ys : List V} {o : HO} {n : Int} {nm : Int → List Int} (h : NmsAt H ys n nm) (e : H L = some (.lst zs)) : NmsAt (L2.upd H L o) ys n nm := ⟨h.1, fun i hi => let ⟨t, e1, z⟩ := h.2 i hi; ⟨t, e1, (upd_ne (fun y => by rw [y, e] at z; cases z)).trans z⟩⟩
theorem NmsAt.set {H : Hp} {ys : List V} {n r : Int} {nm : Int → List Int} {t : Addr} {ns : List Int} (h : NmsAt H ys n nm) (h0 : 0 ≤ r) (h1 : r < n) (et : H t = some (.tup (ns.map V.int))) : NmsAt H (ys.set r.toNat (.ref t)) n (fun h => if h = r then ns else nm h) := ⟨by rw [List.length_set]; exact h.1, fun i hi => by
  rw [List.getElem?_set]
  by_cases c : r.toNat = i
  · rw [if_pos c, if_pos (by have := h.1; omega)]
    refine ⟨t, rfl, ?_⟩
    dsimp only
    rw [if_pos (by omega)]
    exact et
  · dsimp only
    rw [if_neg c, if_neg (by omega)]
    exact h.2 i hi⟩
theorem NmsAt.congr {H : Hp} {ys : List V} {n : Int} {nm nm' : Int → List Int} (h : NmsAt H ys n nm) (e : ∀ i : Nat, (i : Int) < n → nm i = nm' i) : NmsAt H ys n nm' := ⟨h.1, fun i hi => by rw [← e i hi]; exact h.2 i hi⟩
theorem rep_one {α : Type} (x : α) : ∀ m : Nat, (List.replicate m [x]).flatten = List.replicate m x
  | 0 => rfl
  | m + 1 => by rw [List.replicate_succ, List.flatten_cons, rep_one x m]; rfl
theorem NmsAt.rep {H : Hp} {n : Int} {t : Addr} {ns : List Int} (hn : 0 ≤ n) (et : H t = some (.tup (ns.map V.int))) : NmsAt H (List.replicate n.toNat [V.ref t]).flatten n (fun _ => ns) := by
  rw [rep_one]
  refine ⟨by rw [List.length_replicate]; omega, fun i hi => ⟨t, ?_, et⟩⟩
  rw [List.getElem?_replicate, if_pos (by omega)]
/-- how many rows each hand has sent -/
def cnts (n : Int) (ss : List L3) : List Int := (List.range n.toNat).map fun h : Nat => ((ss.countP fun m => decide (m.1 = (h : Int)) : Nat) : Int)
theorem cnts_get {n : Int} {ss : List L3} {i : Nat} (h : (i : Int) < n) : (cnts n ss)[i]? = some ((ss.countP fun m => decide (m.1 = (i : Int)) : Nat) : Int) := by
  unfold cnts
  rw [List.getElem?_map, List.getElem?_range (by omega)]
  rfl
theorem cnts_len {n : Int} {ss : List L3} : (cnts n ss).length = n.toNat := by unfold cnts; rw [List.length_map, List.length_range]
theorem cnts_nil {n : Int} : cnts n [] = List.replicate n.toNat 0 := by
  refine List.ext_getElem? fun i => ?_
  by_cases c : (i : Int) < n
  · rw [cnts_get c, List.getElem?_replicate, if_pos (by omega)]
    rfl
  · rw [List.getElem?_eq_none (by rw [cnts_len]; omega), List.getElem?_eq_none (by rw [List.length_replicate]; omega)]
theorem cnts_snoc {n : Int} {ss : List L3} {l : L3} (h0 : 0 ≤ l.1) (h1 : l.1 < n) : (cnts n ss).set l.1.toNat (((ss.countP fun m => decide (m.1 = l.1) : Nat) : Int) + 1) = cnts n (ss ++ [l]) := by
  refine List.ext_getElem? fun i => ?_
  rw [List.getElem?_set, cnts_len]
  by_cases c : (i : Int) < n
  · rw [cnts_get c, cnts_get c, List.countP_append, List.countP_singleton]
    by_cases d : l.1.toNat = i
    · rw [if_pos d, if_pos (by omega), if_pos (by rw [decide_eq_true_eq]; omega)]
      have : l.1 = (i : Int) := by omega
      rw [this]; rfl
    · rw [if_neg d, if_neg (by rw [decide_eq_true_eq]; omega)]
      rfl
  · rw [if_neg (by omega), List.getElem?_eq_none (by rw [cnts_len]; omega), List.getElem?_eq_none (by rw [cnts_len]; omega)]
theorem r_catTN {K : PySem.W.Frag} {H : Hp} {Q : VK} {a b : Addr} {xs ys : List V} (h1 : H a = some (.tup xs)) (h2 : H b = some (.tup ys)) (n1 : xs ≠ []) (n2 : ys ≠ []) (hl : xs.length + ys.length ≤ 1000) (q : ∀ p H', H p = none → Same H H' → H' p = some (.tup (xs ++ ys)) → Q (.ref p) H') : rCatT K (.ref a) (.ref b) H Q :=
  ⟨a, b, xs, ys, rfl, rfl, SqT.of h1, SqT.of h2, n1, Nat.le_trans hl (by decide), fun e => absurd e n2, fun _ => new_of q⟩
theorem r_repL {H : Hp} {Q : VK} {l : Addr} {k : Int} {x : V} (h : H l = some (.lst [x])) (k1 : 0 ≤ k) (k2 : k ≤ 1000) (q : ∀ p H', H p = none → Same H H' → H' p = some (.lst (List.replicate k.toNat [x]).flatten) → Q (.ref p) H') : rRep (.ref l) (.int k) H Q :=
  ⟨l, k, [x], rfl, rfl, h, by omega, by omega, by rw [List.length_singleton, sizeLine_eq]; omega, new_of q⟩
def toldN (nm : Int → List Int) (ss : List L3) (h : Int) : List Int := if h = 0 ∨ h ∈ recvs ss then nm h else [0]
theorem toldN_snoc {nm : Int → List Int} {ss : List L3} {l : L3} {h : Int} : (if h = l.2.1 then nm l.2.1 else toldN nm ss h) = toldN nm (ss ++ [l]) h := by
  have e : recvs (ss ++ [l]) = recvs ss ++ [l.2.1] := by unfold recvs; rw [List.map_append]; rfl
  unfold toldN
  rw [e]
  by_cases c : h = l.2.1
  · rw [if_pos c, if_pos (.inr (by rw [c]; exact List.mem_append_right _ (List.mem_singleton.mpr rfl))), c]
  · rw [if_neg c]
    by_cases d : h = 0 ∨ h ∈ recvs ss
    · rw [if_pos d, if_pos (d.imp id fun z => List.mem_append_left _ z)]
    · rw [if_neg d, if_neg fun z => d (z.imp id fun z => (List.mem_append.mp z).resolve_right fun y => c (List.mem_singleton.mp y))]
theorem RightQ.told_all {D G n : Int} {rs ss : List L3} (h : RightQ D G n rs) (p : ss.Perm rs) (nm : Int → List Int) {x : Int} (h0 : 0 ≤ x) (h1 : x < n) : toldN nm ss x = nm x := by
  unfold toldN
  refine if_pos ?_
  by_cases c : x = 0
  · exact .inl c
  · right
    have := h.all x (by omega) h1
    exact (List.Perm.mem_iff (show (recvs ss).Perm (recvs rs) from p.map _)).mpr this
def spNamesOf (M : Addr) : Sp := fun vs H Q _ => ∃ (m p : Addr) (o l g n : Int) (xs : List V) (rs : List L3) (nm : Int → List Int), vs = [.ref m, .int n, .ref p] ∧ MachAt M H m o l g ∧ 0 < 2 * o + l ∧ 0 < gapOf o g ∧ gapOf o g < 2 ^ 64 ∧ (1 ≤ n ∧ n ≤ 100) ∧ SeqV H p xs ∧ TrisAt H xs rs ∧ faultF (2 * o + l) (gapOf o g) n rs = none ∧
  RightQ (2 * o + l) (gapOf o g) n rs ∧ NamesOk (2 * o + l) (gapOf o g) n rs nm ∧ TbsOk H ∧ ∀ (q : Addr) (ys : List V) (H' : Hp), Same H H' → H q = none → H' q = some (.lst ys) → NmsAt H' ys n nm → Q (.ref q) H'
section
variable {P : Program} {w : World} {K : PySem.W.Frag} {mg : Str → Option Value} {base : Heap} {a : Adr}
set_option maxHeartbeats 0 in
theorem ok_names_of (T : Txt K mg base a) : FnOk P w K mg base CX0 6 a.a_names_of a.d_names_of ["machine", "n", "plan"] (spNamesOf a.c_Machine) := by
  refine T.F_names_of.ok sc_names_of (fun vs H Q E h => ?_) (fun cdv A outer s H vs Q E hr h => ?_)
  · obtain ⟨m, p, o, l, g, n, xs, rs, nm, rfl, _⟩ := h
    rfl
  · obtain ⟨m, p, o, l, g, n, xs, rs, nm, rfl, hm, hD, hG, g9, hn, ep, hA, hf, hQ, hN, hT, k⟩ := h
    refine ⟨_, (pss_cons (ps_expr (pe_call (ok_refuse T) (hr.mono (by decide)) (by rfl) T.g_refuse T.F_refuse.kp T.b_refuse .nil pass0 (pa_cons (pe_call (ok_fault T) (hr.mono (by decide)) (by rfl) T.g_fault T.F_fault.kp T.b_fault .nil pass0 (pa_cons (pv 0) (pa_cons (pv 1) (pa_cons (pv 2) pa_nil)))) pa_nil)))
 (pss_cons (ps_set (i := 3) sc_names_of.nd rfl (Or.inl rfl) (pe_op op_rep (pe_lst (pa_cons (pe_tup (pa_cons pe_int pa_nil)) pa_nil)) (pv 1)))
 (pss_cons (ps_set (i := 4) sc_names_of.nd rfl (Or.inl rfl) (pe_op op_rep (pe_lst (pa_cons pe_int pa_nil)) (pv 1)))
 (pss_cons (ps_for (by exact PassesOwn.never) rfl (pi_list (pe_call (ok_by_start T) (hr.mono (by decide)) (by rfl) T.g_by_start T.F_by_start.kp T.b_by_start .nil pass0 (pa_cons (pv 2) pa_nil))) (pg_tup (by rfl) (pgs_cons (pg_name (i := 5) sc_names_of.nd rfl (Or.inl rfl)) (pgs_cons (pg_name (i := 6) sc_names_of.nd rfl (Or.inl rfl)) (pgs_cons (pg_name (i := 7) sc_names_of.nd rfl (Or.inl rfl)) pgs_nil))))
 (pss_cons (ps_asg (pe_op op_catT (pe_ix ix_list (pv 3) (pv 5) (fun _ _ => rfl)) (pe_tup (pa_cons (pe_ix ix_list (pv 4) (pv 5) (fun _ _ => rfl)) pa_nil))) (pg_sub (pv 3) (pv 6) set_list))
 (pss_one (ps_augS (pv 4) (pv 5) gt_list pe_int ip_add set_list))))
 (pss_one (ps_ret (pv 3))))))), ?_⟩
    have hlen := hQ.len
    repeat first | walk_at "rd" | walk_at "rdi"
    refine ⟨m, p, o, l, g, n, xs, rs, rfl, hm, by omega, g9, hn, ep, hA, by omega, fun v H1 s1 hv => ?_⟩
    rw [hf] at hv
    obtain rfl : v = .non := hv
    repeat first | walk_at "rd" | walk_at "rdi"
    refine ⟨rfl, ?_⟩
    repeat first | walk_at "rd" | walk_at "rdi"
    refine new_at (Nat.le_of_ble_eq_true rfl) (fun t0 H2 n2 s2 e2 => ?_)
    repeat first | walk_at "rd" | walk_at "rdi"
    refine new_at (Nat.le_of_ble_eq_true rfl) (fun l0 H3 n3 s3 e3 => ?_)
    repeat first | walk_at "rd" | walk_at "rdi"
    refine r_repL e3 (by omega) (by omega) (fun N H4 n4 s4 e4 => ?_)
    have eN := NmsAt.rep (n := n) (H := H4) (ns := [0]) (by omega) (s4 _ _ (s3 _ _ e2))
    repeat first | walk_at "rd" | walk_at "rdi"
    refine new_at (Nat.le_of_ble_eq_true rfl) (fun l1 H5 n5 s5 e5 => ?_)
    repeat first | walk_at "rd" | walk_at "rdi"
    refine r_repL e5 (by omega) (by omega) (fun C H6 n6 s6 e6 => ?_)
    rw [rep_one] at e6
    have e4 := s6 _ _ (s5 _ _ e4)
    have eN := (eN.keep s5).keep s6
    have c4 := ((s1.trans s2).trans s3)
    have c6 := ((c4.trans s4).trans s5).trans s6
    have nN : H N = none := c4.free n4
    have nC : H C = none := ((c4.trans s4).trans s5).free n6
    have neNC : N ≠ C := ne_of_none (s5 _ _ (by assumption)) n6
    repeat first | walk_at "rd" | walk_at "rdi"
    refine ⟨p, xs, rs, rfl, ep.keep c6, hA.keep c6, c6.ts hT, fun q zs ss H7 s7 nq eq hS ps hB => ?_⟩
    have c7 := c6.trans s7
    have qN : q ≠ N := (ne_of_none e4 nq).symm
    have qC : q ≠ C := (ne_of_none e6 nq).symm
    have e4 := s7 _ _ e4
    have e6 : H7 C = some (.lst ((cnts n []).map V.int)) := by
      rw [cnts_nil, List.map_replicate]
      exact s7 _ _ e6
    have eN := eN.keep s7
    generalize (List.replicate n.toNat [V.ref t0]).flatten = ys0 at e4 eN
    clear e2 e3 e5 n2 n3 n4 n5 n6 s1 s2 s3 s4 s5 s6 s7 c4 c6 nq
    repeat first | walk_at "rd" | walk_at "rdi"
    refine ⟨q, rfl, ⟨_, SqL.of eq⟩, for_list (K := K) (a := q) (xs := zs) (fun i σ H' => ∃ (v5 v6 v7 : Option V) (ys : List V), σ = [some (.ref m), some (.int n), some (.ref p), some (.ref N), some (.ref C), v5, v6, v7] ∧ H' N = some (.lst ys) ∧ NmsAt H' ys n (toldN nm (ss.take i)) ∧ H' C = some (.lst ((cnts n (ss.take i)).map V.int)) ∧ H' q = some (.lst zs) ∧ TrisAt H' zs ss ∧ Same H H') ⟨_, _, _, ys0, rfl, e4, eN.congr (fun i hi => ?_), e6, eq, hS, c7⟩ (fun i σ H' _ ⟨_, _, _, _, _, _, _, _, e, _⟩ => SqL.of e) ?_ ?_⟩
    · rw [List.take_zero]
      unfold toldN
      by_cases c : (i : Int) = 0
      · rw [if_pos (.inl c), c, hN.zero]
      · rw [if_neg (fun z => z.elim c fun y => nomatch y)]
    · clear e4 eN e6 eq hS c7
      rintro i x σ H8 hx ⟨v5, v6, v7, ys, rfl, e4, eN, e6, eq, hS, c8⟩
      obtain ⟨t, r, rfl, hl1, et⟩ := hS.get hx
      obtain ⟨o1, o2, o3⟩ := hQ.order hD hG ps hB hl1
      have hrm : r ∈ rs := ps.mem_iff.mp (List.mem_iff_getElem?.mpr ⟨i, hl1⟩)
      have hh := hQ.hands r hrm
      obtain ⟨ts, ets, hts⟩ := eN.2 r.1.toNat (by omega)
      rw [show ((r.1.toNat : Nat) : Int) = r.1 by omega] at hts
      have hsn : toldN nm (ss.take i) r.1 = nm r.1 := if_pos o1
      rw [hsn] at hts
      obtain ⟨zs1, ez1, ez2, ez3⟩ := hN.shape r.1 hh.1.1 hh.1.2
      have ea : atI ys r.1 = some (.ref ts) := by
        rw [show r.1 = ((r.1.toNat : Nat) : Int) by omega]
        exact atI_nat ets
      have ec : atI ((cnts n (ss.take i)).map V.int) r.1 = some (.int (idxOf rs r : Int)) := by
        rw [show r.1 = ((r.1.toNat : Nat) : Int) by omega]
        refine atI_nat ?_
        rw [List.getElem?_map, cnts_get (by omega), show ((r.1.toNat : Nat) : Int) = r.1 by omega, o2]
        rfl
      repeat first | walk_at "rd" | walk_at "rdi"
      refine r_ixL e4 ea ?_
      repeat first | walk_at "rd" | walk_at "rdi"
      refine r_ixL e6 ec ?_
      repeat first | walk_at "rd" | walk_at "rdi"
      refine new_at (Nat.le_of_ble_eq_true rfl) (fun t2 H9 n9 s9 e9 => ?_)
      repeat first | walk_at "rd" | walk_at "rdi"
      refine r_catTN (s9 _ _ hts) e9 (by rw [ez1]; simp) (by simp) (by rw [ez1, List.length_map, List.length_cons, List.length_singleton]; omega) (fun t3 H10 n10 s10 e10 => ?_)
      have s910 := s9.trans s10
      have e4 := s910 _ _ e4
      have e6 := s910 _ _ e6
      have eq := s910 _ _ eq
      have eN := eN.keep s910
      have hS := hS.keep s910
      have c10 := c8.trans s910
      have e10 : H10 t3 = some (.tup ((nm r.2.1).map V.int)) := by
        rw [e10, hN.row r hrm, List.map_append]
        rfl
      clear s9 s10 s910 n9 n10 e9 hts
      repeat first | walk_at "rd" | walk_at "rdi"
      refine ⟨N, ys, r.2.1, r.2.1.toNat, rfl, rfl, e4, ix_int (by omega) (by have := eN.1; omega), ?_⟩
      have eN := (eN.set (r := r.2.1) (by omega) hh.2.1.2 e10).updL (o := .lst (ys.set r.2.1.toNat (.ref t3))) e4
      have hS := hS.upd (o := .lst (ys.set r.2.1.toNat (.ref t3))) e4
      have e6 : L2.upd H10 N (.lst (ys.set r.2.1.toNat (.ref t3))) C = some (.lst ((cnts n (ss.take i)).map V.int)) := (upd_ne neNC.symm).trans e6
      have eq : L2.upd H10 N (.lst (ys.set r.2.1.toNat (.ref t3))) q = some (.lst zs) := (upd_ne qN).trans eq
      have c11 := c10.over (o := .lst (ys.set r.2.1.toNat (.ref t3))) nN e4
      have e4 : L2.upd H10 N (.lst (ys.set r.2.1.toNat (.ref t3))) N = some (.lst (ys.set r.2.1.toNat (.ref t3))) := upd_same
      generalize L2.upd H10 N (.lst (ys.set r.2.1.toNat (.ref t3))) = H11 at eN hS e6 eq c11 e4 ⊢
      repeat first | walk_at "rd" | walk_at "rdi"
      refine r_ixL e6 ec ?_
      repeat first | walk_at "rd" | walk_at "rdi"
      refine ⟨C, _, r.1, r.1.toNat, rfl, rfl, e6, ix_int (by omega) (by rw [List.length_map, cnts_len]; omega), ?_⟩
      refine ⟨_, _, _, _, rfl, (upd_ne neNC).trans e4, (eN.updL e6).congr (fun j hj => ?_), ?_, (upd_ne qC).trans eq, hS.upd e6, c11.over nC e6⟩
      · rw [take_more hl1]
        exact toldN_snoc
      · rw [upd_same, take_more hl1, ← cnts_snoc hh.1.1 hh.1.2, List.map_set, o2]
    · rintro σ H8 ⟨v5, v6, v7, ys, rfl, e4, eN, e6, eq, hS, c8⟩
      rw [hS.1, List.take_length] at eN
      repeat first | walk_at "rd" | walk_at "rdi"
      exact k N ys H8 c8 nN e4 (eN.congr fun i hi => hQ.told_all ps nm (by omega) hi)
end

local macro_rules | `(tactic| walk_at "no") => `(tactic| exact tf_no (by decide +kernel) (by decide +kernel) (by decide +kernel) (by decide +kernel) (by decide +kernel) (by decide +kernel))
local macro_rules | `(tactic| walk_at "lk") => `(tactic| first | exact tf_letter | exact tf_gap | exact tf_turns | exact tf_roots | exact tf_horizon | exact tf_powers)
local macro_rules | `(tactic| walk_at "rd") => `(tactic| with_reducible first
  | refine r_lenS (by assumption) ?_)

/-! ### the law's own names of a plan -/
theorem r_disp1T {i j : Int} {σ : St} {H : Hp} {Q : VK} (k : ∀ p t H', H p = none → Same H H' → H t = none → H' t = some (.tup [.int j]) → H' p = some (.dK [(.inl i, .ref t)]) → Q (.ref p) H') : tDisp [(tC (.int i), tTup (tCons (tC (.int j)) tNil))] σ H Q := fun p hp => by
  refine ⟨Nat.le_of_ble_eq_true rfl, fun t ht => ?_⟩
  have npt : p ≠ t := fun z => by rw [← z, upd_same] at ht; cases ht
  have hp1 : L2.upd (L2.upd H p (.dK [])) t (.tup [.int j]) p = some (.dK []) := (upd_ne npt).trans upd_same
  refine ⟨hp1, [(.inl i, .ref t)], rfl, Nat.le_of_ble_eq_true rfl, k p t _ hp ?_ (by rw [← ht, upd_ne npt.symm]) ((upd_ne npt.symm).trans upd_same) upd_same⟩
  exact ((Same.new hp).trans (Same.new ht)).over hp hp1
theorem r_dget2 {td ty tx : TE} {σ : St} {H : Hp} {Q : VK} (h : td σ H fun x H1 => ∃ a, x = .ref a ∧ IsD H1 a ∧ ty σ H1 fun y H2 => tx σ H2 fun z H3 => ∃ o, DGet H3 a y o ∧ Q (o.getD z) H3) : tDGet2 td ty tx σ H Q := h
/-- the names that a dict holds of the hands told so far -/
def NmD (H : Hp) (kn : List (L2.Key × V)) (nm : Int → List Int) (ss : List L3) : Prop := ∀ h : Int, h = 0 ∨ h ∈ recvs ss → ∃ t : Addr, valV kn (.inl h) = some (.ref t) ∧ H t = some (.tup ((nm h).map V.int))
theorem NmD.keep {H H' : Hp} {kn : List (L2.Key × V)} {nm : Int → List Int} {ss : List L3} (h : NmD H kn nm ss) (s : Same H H') : NmD H' kn nm ss := fun x hx => let ⟨t, e, z⟩ := h x hx; ⟨t, e, s _ _ z⟩
theorem NmD.upd {H : Hp} {d : Addr} {kvs : List (L2.Key × V)} {o : HO} {kn : List (L2.Key × V)} {nm : Int → List Int} {ss : List L3} (h : NmD H kn nm ss) (e : H d = some (.dK kvs)) : NmD (L2.upd H d o) kn nm ss := fun x hx => let ⟨t, e1, z⟩ := h x hx; ⟨t, e1, (upd_ne (fun y => by rw [y, e] at z; cases z)).trans z⟩
theorem NmD.snoc {H : Hp} {kn : List (L2.Key × V)} {nm : Int → List Int} {ss : List L3} {l : L3} {t : Addr} (h : NmD H kn nm ss) (et : H t = some (.tup ((nm l.2.1).map V.int))) : NmD H (putK kn (.inl l.2.1) (.ref t)) nm (ss ++ [l]) := fun x hx => by
  rw [valV_putK]
  by_cases c : x = l.2.1
  · rw [if_pos (by rw [c]), c]
    exact ⟨t, rfl, et⟩
  · rw [if_neg fun z => c (Sum.inl.inj z)]
    refine h x (hx.imp id fun z => ?_)
    have e : recvs (ss ++ [l]) = recvs ss ++ [l.2.1] := by unfold recvs; rw [List.map_append]; rfl
    rw [e] at z
    exact (List.mem_append.mp z).resolve_right fun y => c (List.mem_singleton.mp y)
/-- how often each hand has sent, less one -/
def SentD (ks : List (L2.Key × V)) (ss : List L3) : Prop := ∀ h : Int, valV ks (.inl h) = if (ss.countP fun m => decide (m.1 = h)) = 0 then none else some (.int (((ss.countP fun m => decide (m.1 = h) : Nat) : Int) - 1))
theorem SentD.get {ks : List (L2.Key × V)} {ss : List L3} (h : SentD ks ss) (x : Int) : (valV ks (.inl x)).getD (.int (-1)) = .int (((ss.countP fun m => decide (m.1 = x) : Nat) : Int) - 1) := by
  rw [h x]
  split
  · rename_i c; rw [c]; rfl
  · rfl
theorem SentD.snoc {ks : List (L2.Key × V)} {ss : List L3} {l : L3} (h : SentD ks ss) : SentD (putK ks (.inl l.1) (.int ((ss.countP fun m => decide (m.1 = l.1) : Nat) : Int))) (ss ++ [l]) := fun x => by
  have e : ((ss ++ [l]).countP fun m => decide (m.1 = x)) = (ss.countP fun m => decide (m.1 = x)) + (if l.1 = x then 1 else 0) := by
    rw [List.countP_append, List.countP_singleton]
    by_cases c : l.1 = x <;> simp [c]
  rw [valV_putK, e]
  by_cases c : x = l.1
  · subst c
    rw [if_pos rfl, if_pos rfl, if_neg (by omega)]
    congr 2
    omega
  · rw [if_neg fun z => c (Sum.inl.inj z), show (if l.1 = x then 1 else 0) = 0 from if_neg fun e => c e.symm, Nat.add_zero]
    exact h x
def spCalled : Sp := fun vs H Q _ => ∃ (p : Addr) (D G n most : Int) (xs : List V) (rs : List L3) (nm : Int → List Int), vs = [.int n, .ref p] ∧ H p = some (.lst xs) ∧ TrisAt H xs rs ∧ (1 ≤ n ∧ n ≤ 60) ∧ (1 ≤ D ∧ D ≤ 3000000000) ∧ (1 ≤ G ∧ G ≤ 1000000000) ∧ RightQ D G n rs ∧ (∀ l, l ∈ rs → 0 ≤ l.2.2 ∧ l.2.2 < 10000000000000000) ∧ NamesOk D G n rs nm ∧
  ∀ (q : Addr) (ys : List V) (H' : Hp), Same H H' → H' q = some (.lst ys) → NmsAt H' ys n nm → Q (.ref q) H'
def spSameNames : Sp := fun vs H Q _ => ∃ (p q : Addr) (xs ys : List V) (n : Int) (nm : Int → List Int), vs = [.ref p, .ref q] ∧ H p = some (.lst xs) ∧ H q = some (.lst ys) ∧ NmsAt H xs n nm ∧ NmsAt H ys n nm ∧ (1 ≤ n ∧ n ≤ 100) ∧ (∀ h : Nat, (h : Int) < n → (nm h).length ≤ 1000) ∧ Q (.bl true) H
/-- a row with its items in another order: start, sender, receiver -/
def rotL (l : L3) : L3 := (l.2.2, l.1, l.2.1)
def unrot (l : L3) : L3 := (l.2.1, l.2.2, l.1)
theorem unrot_rot (l : L3) : unrot (rotL l) = l := rfl
section
variable {P : Program} {w : World} {K : PySem.W.Frag} {mg : Str → Option Value} {base : Heap} {a : Adr}
set_option maxHeartbeats 0 in
theorem ok__law_called (T : Txt K mg base a) : FnOk P w K mg base CX0 1 a.a__law_called a.d__law_called ["_law_n", "_law_rows"] spCalled := by
  refine T.F__law_called.ok sc__law_called (fun vs H Q E h => ?_) (fun cdv A outer s H vs Q E hr h => ?_)
  · obtain ⟨p, D, G, n, most, xs, rs, nm, rfl, _⟩ := h
    rfl
  · obtain ⟨p, D, G, n, most, xs, rs, nm, rfl, ep, hA, hn, hD, hG, hQ, hst, hN, k⟩ := h
    refine ⟨_, (pss_cons (ps_set (i := 2) sc__law_called.nd rfl (Or.inr rfl) (pe_disp (pps_cons pe_int (pe_tup (pa_cons pe_int pa_nil)) pps_nil) rfl rfl (by decide) (by decide)))
 (pss_cons (ps_set (i := 3) sc__law_called.nd rfl (Or.inl rfl) pe_dnewK)
 (pss_cons (ps_for (by exact PassesOwn.never) rfl (pi_list (pe_callB (cr_sortT (d := 3) (B := 10000000000000000) (by decide)) (by rfl) T.n_sorted (by decide +kernel) (pa_cons (pe_lc (own := [("_law_row", 8)]) (g := gName 8) (tt := tYes) rfl sc__law_called.nd (pi_list (pv 1)) (blkOk_by (own := [("_law_row", 8)]) (N := ["_law_n", "_law_rows", "_law_names", "_law_sent", "_law_start", "_law_sender", "_law_receiver", "_law_hand", "_law_row"]) (sc := defScope s__law_called) (by decide +kernel)) (fun _ _ _ _ _ => (pg_name (i := 8) sc__law_called.nd rfl (Or.inl rfl))) (fun _ _ _ _ _ => pts_nil) (fun _ _ _ _ _ => (pe_tup (pa_cons (pe_ix (ix_tupK (K := K) rfl) (pv 8) pe_int (fun _ _ => rfl)) (pa_cons (pe_ix (ix_tupK (K := K) rfl) (pv 8) pe_int (fun _ _ => rfl)) (pa_cons (pe_ix (ix_tupK (K := K) rfl) (pv 8) pe_int (fun _ _ => rfl)) pa_nil)))))) pa_nil))) (pg_tup (by rfl) (pgs_cons (pg_name (i := 4) sc__law_called.nd rfl (Or.inl rfl)) (pgs_cons (pg_name (i := 5) sc__law_called.nd rfl (Or.inl rfl)) (pgs_cons (pg_name (i := 6) sc__law_called.nd rfl (Or.inl rfl)) pgs_nil))))
 (pss_cons (ps_asg (pe_op op_add (pe_dget2 (u1 hr.units) (pv 3) (pv 5) (pe_un un_neg pe_int) ⟨rfl, rfl, rfl, rfl⟩) pe_int) (pg_sub (pv 3) (pv 5) (set_dict (u1 hr.units))))
 (pss_one (ps_asg (pe_op op_catT (pe_dget (u1 hr.units) (pv 2) (pv 5) (fun _ _ => rfl)) (pe_tup (pa_cons (pe_dget (u1 hr.units) (pv 3) (pv 5) (fun _ _ => rfl)) pa_nil))) (pg_sub (pv 2) (pv 6) (set_dict (u1 hr.units)))))))
 (pss_one (ps_ret (pe_lc (own := [("_law_hand", 7)]) (g := gName 7) (tt := tYes) rfl sc__law_called.nd (pi_range1 (by rfl) T.n_range (pa_cons (pv 0) pa_nil)) (blkOk_by (own := [("_law_hand", 7)]) (N := ["_law_n", "_law_rows", "_law_names", "_law_sent", "_law_start", "_law_sender", "_law_receiver", "_law_hand", "_law_row"]) (sc := defScope s__law_called) (by decide +kernel)) (fun _ _ _ _ _ => (pg_name (i := 7) sc__law_called.nd rfl (Or.inl rfl))) (fun _ _ _ _ _ => pts_nil) (fun _ _ _ _ _ => (pe_dget (u1 hr.units) (pv 2) (pv 7) (fun _ _ => rfl))))))))), ?_⟩
    have hlen := hQ.len
    have hxl := hA.1
    repeat first | walk_at "rd" | walk_at "rdi"
    refine r_disp1T (fun d t0 H1 nd s1 nt e0 ed => ?_)
    have ep := s1 _ _ ep
    have hA := hA.keep s1
    repeat first | walk_at "rd" | walk_at "rdi"
    refine r_dnew (fun c H2 nc s2 ec => ?_)
    have ndc : d ≠ c := ne_of_none ed nc
    have nc0 : H c = none := s1.free nc
    have ed := s2 _ _ ed
    have e0 := s2 _ _ e0
    have ep := s2 _ _ ep
    have hA := hA.keep s2
    have c2 := s1.trans s2
    clear s1 s2 nc nt
    repeat first | walk_at "rd" | walk_at "rdi"
    refine ⟨p, rfl, ⟨_, SqL.of ep⟩, fun L hL => lc_list (K := K) (a := p) (xs := xs) (fun i H' => ∃ acc, H' L = some (.lst acc) ∧ TrisAt H' acc ((rs.take i).map rotL) ∧ Same H2 H') ⟨[], upd_same, TrisAt.nil, Same.new hL⟩ (fun i H' _ ⟨_, _, _, s⟩ => SqL.of (s _ _ ep)) ?_ ?_⟩
    · rintro i x H3 hx ⟨acc, g1, g2, s3⟩
      obtain ⟨t, r, rfl, hl1, et⟩ := (hA.keep s3).get hx
      have hi9 := (List.getElem?_eq_some_iff.mp hl1).1
      repeat walk_at "rd"
      refine ⟨rfl, ?_⟩
      repeat walk_at "rd"
      refine new_at (Nat.le_of_ble_eq_true rfl) (fun t2 H4 n4 s4 e4 => ?_)
      have g1 := s4 _ _ g1
      refine ⟨_, g1, small1000 (by rw [g2.1, List.length_map, List.length_take]; omega), acc ++ [.ref t2], upd_same, ?_, (s3.trans s4).over hL g1⟩
      rw [take_more hl1, List.map_append]
      exact ((g2.keep s4).snoc (g := rotL r) e4).upd g1
    · rintro H3 ⟨acc, g1, g2, s3⟩
      rw [hxl, List.take_length] at g2
      have ed := s3 _ _ ed
      have ec := s3 _ _ ec
      have e0 := s3 _ _ e0
      have c3 := c2.trans s3
      have hal : acc.length = rs.length := by rw [g2.1, List.length_map]
      clear s3 ep
      repeat first | walk_at "rd" | walk_at "rdi"
      refine ⟨L, acc, rfl, SqL.of g1, by omega, fun x hx => ?_, fun zs q pm srt nq => ?_⟩
      · obtain ⟨t, r, rfl, hr1, et⟩ := g2.mem hx
        obtain ⟨r0, hr0, rfl⟩ := List.mem_map.mp hr1
        have hh := hQ.hands r0 hr0
        have hs := hst r0 hr0
        refine ⟨[r0.2.2, r0.1, r0.2.1], ⟨t, rfl, SqT.of et⟩, rfl, fun m hm => ?_⟩
        have hm : m = r0.2.2 ∨ m = r0.1 ∨ m = r0.2.1 := by simpa using hm
        rcases hm with rfl | rfl | rfl <;> omega
      · obtain ⟨us, hus, pu⟩ := TrisAt.perm pm g2
        have ps : (us.map unrot).Perm rs := by
          have := pu.map unrot
          rw [List.map_map] at this
          have e : (unrot ∘ rotL) = id := funext fun l => unrot_rot l
          rw [e, List.map_id] at this
          exact this
        have hB : (us.map unrot).Pairwise fun l m => l.2.2 ≤ m.2.2 := by
          rw [List.pairwise_map]
          rw [List.pairwise_iff_getElem] at srt ⊢
          intro i j hi hj hij
          have hl := hus.1
          obtain ⟨t1, e1, et1⟩ := hus.2 i us[i] (List.getElem?_eq_getElem hi)
          obtain ⟨t2, e2, et2⟩ := hus.2 j us[j] (List.getElem?_eq_getElem hj)
          have h := srt i j (by omega) (by omega) hij [us[i].1, us[i].2.1, us[i].2.2] [us[j].1, us[j].2.1, us[j].2.2] ⟨t1, by rw [List.getElem?_eq_getElem (by omega)] at e1; exact Option.some.inj e1, SqT.of et1⟩ ⟨t2, by rw [List.getElem?_eq_getElem (by omega)] at e2; exact Option.some.inj e2, SqT.of et2⟩
          show us[i].1 ≤ us[j].1
          have bd : ∀ r, r ∈ us → TS.Bd 10000000000000000 [r.2.1, r.2.2] := fun r hr1 m hm => by
            obtain ⟨r0, hr0, rfl⟩ := List.mem_map.mp (pu.mem_iff.mp hr1)
            have hh := hQ.hands r0 hr0
            have hm : m = r0.1 ∨ m = r0.2.1 := by simpa [rotL] using hm
            rcases hm with rfl | rfl <;> omega
          by_cases c : us[i].1 ≤ us[j].1
          · exact c
          · have := TS.code_lt (B := 10000000000000000) (r := [us[j].2.1, us[j].2.2]) (q := [us[i].2.1, us[i].2.2]) rfl (bd _ (List.getElem_mem hj)) (bd _ (List.getElem_mem hi)) (show us[j].1 < us[i].1 by omega)
            omega
        have s4 : Same H3 (L2.upd H3 q (.lst zs)) := Same.new nq
        have dq : d ≠ q := ne_of_none ed nq
        have cq : c ≠ q := ne_of_none ec nq
        have eq : L2.upd H3 q (.lst zs) q = some (.lst zs) := upd_same
        have ed := s4 _ _ ed
        have ec := s4 _ _ ec
        have e0 := s4 _ _ e0
        have hus := hus.keep s4
        have c4 := c3.trans s4
        generalize L2.upd H3 q (.lst zs) = H4 at eq ed ec e0 hus c4 ⊢
        clear s4 nq g1 g2 c3 srt pm
        repeat first | walk_at "rd" | walk_at "rdi"
        refine ⟨q, rfl, ⟨_, SqL.of eq⟩, for_list (K := K) (a := q) (xs := zs) (fun i σ H' => ∃ (v4 v5 v6 : Option V) (kn ks : List (L2.Key × V)), σ = [some (.int n), some (.ref p), some (.ref d), some (.ref c), v4, v5, v6, none, none] ∧ H' d = some (.dK kn) ∧ H' c = some (.dK ks) ∧ kn.length ≤ 1 + i ∧ ks.length ≤ i ∧ NmD H' kn nm ((us.take i).map unrot) ∧ SentD ks ((us.take i).map unrot) ∧ H' q = some (.lst zs) ∧ TrisAt H' zs us ∧ Same H H') ⟨_, _, _, _, _, rfl, ed, ec, by simp, by simp, fun h hh => ?_, fun h => rfl, eq, hus, c4⟩ (fun i σ H' _ ⟨_, _, _, _, _, _, _, _, _, _, _, _, e, _⟩ => SqL.of e) ?_ ?_⟩
        · rcases hh with rfl | hh
          · exact ⟨t0, rfl, by rw [hN.zero]; exact e0⟩
          · exact nomatch hh
        · clear ed ec e0 eq hus c4
          rintro i x σ H5 hx ⟨v4, v5, v6, kn, ks, rfl, ed, ec, lkn, lks, hK, hS, eq, hus, c5⟩
          obtain ⟨t, u, rfl, hl1, et⟩ := hus.get hx
          have hi9 := (List.getElem?_eq_some_iff.mp hl1).1
          have hul : us.length = rs.length := by rw [← ps.length_eq, List.length_map]
          have hl2 : (us.map unrot)[i]? = some (unrot u) := by rw [List.getElem?_map, hl1]; rfl
          obtain ⟨o1, o2, o3⟩ := hQ.order (by omega) (by omega) ps hB hl2
          rw [← List.map_take] at o1 o2 o3
          have hrm : unrot u ∈ rs := ps.mem_iff.mp (List.mem_iff_getElem?.mpr ⟨i, hl2⟩)
          have hh := hQ.hands _ hrm
          obtain ⟨zs1, ez1, ez2, ez3⟩ := hN.shape (unrot u).1 hh.1.1 hh.1.2
          obtain ⟨tn, hv, htn⟩ := hK (unrot u).1 o1
          have htm : (us.take (i + 1)).map unrot = (us.take i).map unrot ++ [unrot u] := by rw [take_more hl1, List.map_append]; rfl
          repeat first | walk_at "rd" | walk_at "rdi"
          refine r_dget2 ?_
          repeat first | walk_at "rd" | walk_at "rdi"
          refine ⟨c, rfl, .inl ⟨_, .inl ec⟩, ?_⟩
          repeat first | walk_at "rd" | walk_at "rdi"
          refine ⟨valV ks (.inl u.2.1), DGet.k (k := .inl u.2.1) ec, ?_⟩
          have hg := hS.get u.2.1
          rw [hg]
          repeat first | walk_at "rd" | walk_at "rdi"
          refine r_setK ec (by omega) ?_
          have e1 : ((((us.take i).map unrot).countP fun m => decide (m.1 = u.2.1) : Nat) : Int) - 1 + 1 = ((((us.take i).map unrot).countP fun m => decide (m.1 = u.2.1) : Nat) : Int) := by omega
          rw [e1]
          have hS2 : SentD (putK ks (.inl u.2.1) (.int ((((us.take i).map unrot).countP fun m => decide (m.1 = u.2.1) : Nat) : Int))) ((us.take i).map unrot ++ [unrot u]) := hS.snoc (l := unrot u)
          have hK2 := hK.upd (o := .dK (putK ks (.inl u.2.1) (.int ((((us.take i).map unrot).countP fun m => decide (m.1 = u.2.1) : Nat) : Int)))) ec
          have ed2 : L2.upd H5 c (.dK (putK ks (.inl u.2.1) (.int ((((us.take i).map unrot).countP fun m => decide (m.1 = u.2.1) : Nat) : Int)))) d = some (.dK kn) := (upd_ne ndc).trans ed
          have eq2 : L2.upd H5 c (.dK (putK ks (.inl u.2.1) (.int ((((us.take i).map unrot).countP fun m => decide (m.1 = u.2.1) : Nat) : Int)))) q = some (.lst zs) := (upd_ne cq.symm).trans eq
          have hus2 : TrisAt (L2.upd H5 c (.dK (putK ks (.inl u.2.1) (.int ((((us.take i).map unrot).countP fun m => decide (m.1 = u.2.1) : Nat) : Int))))) zs us := hus.updD ec
          have c6 := c5.over (o := .dK (putK ks (.inl u.2.1) (.int ((((us.take i).map unrot).countP fun m => decide (m.1 = u.2.1) : Nat) : Int)))) nc0 ec
          have ec2 : L2.upd H5 c (.dK (putK ks (.inl u.2.1) (.int ((((us.take i).map unrot).countP fun m => decide (m.1 = u.2.1) : Nat) : Int)))) c = some (.dK (putK ks (.inl u.2.1) (.int ((((us.take i).map unrot).countP fun m => decide (m.1 = u.2.1) : Nat) : Int)))) := upd_same
          have htn2 : L2.upd H5 c (.dK (putK ks (.inl u.2.1) (.int ((((us.take i).map unrot).countP fun m => decide (m.1 = u.2.1) : Nat) : Int)))) tn = some (.tup ((nm u.2.1).map V.int)) := (upd_ne (fun y => by rw [y, ec] at htn; cases htn)).trans htn
          have lks2 := len_putK (kvs := ks) (k := (.inl u.2.1 : L2.Key)) (v := .int ((((us.take i).map unrot).countP fun m => decide (m.1 = u.2.1) : Nat) : Int))
          have hvs : valV (putK ks (.inl u.2.1) (.int ((((us.take i).map unrot).countP fun m => decide (m.1 = u.2.1) : Nat) : Int))) (.inl u.2.1) = some (.int (idxOf rs (unrot u) : Int)) := by
            rw [valV_putK, if_pos rfl, ← o2]; rfl
          generalize putK ks (.inl u.2.1) (.int ((((us.take i).map unrot).countP fun m => decide (m.1 = u.2.1) : Nat) : Int)) = ks2 at hS2 hK2 ed2 eq2 hus2 c6 ec2 htn2 lks2 hvs ⊢
          generalize L2.upd H5 c (.dK ks2) = H6 at hK2 ed2 eq2 hus2 c6 ec2 htn2 ⊢
          have hv : valV kn (.inl u.2.1) = some (.ref tn) := hv
          repeat first | walk_at "rd" | walk_at "rdi"
          refine r_dget ?_
          repeat first | walk_at "rd" | walk_at "rdi"
          refine r_getK ed2 hv ?_
          repeat first | walk_at "rd" | walk_at "rdi"
          refine r_dget ?_
          repeat first | walk_at "rd" | walk_at "rdi"
          refine r_getK ec2 hvs ?_
          repeat first | walk_at "rd" | walk_at "rdi"
          refine new_at (Nat.le_of_ble_eq_true rfl) (fun t2 H9 n9 s9 e9 => ?_)
          have ez1 : nm u.2.1 = 0 :: zs1 := ez1
          repeat first | walk_at "rd" | walk_at "rdi"
          refine r_catTN (s9 _ _ htn2) e9 (by rw [ez1]; simp) (by simp) (by rw [ez1, List.length_map, List.length_cons, List.length_singleton]; omega) (fun t3 H10 n10 s10 e10 => ?_)
          have s910 := s9.trans s10
          have ed3 := s910 _ _ ed2
          have e10 : H10 t3 = some (.tup ((nm (unrot u).2.1).map V.int)) := by
            rw [e10, hN.row _ hrm, List.map_append]
            rfl
          repeat first | walk_at "rd" | walk_at "rdi"
          refine r_setK ed3 (by omega) ?_
          have lkn2 := len_putK (kvs := kn) (k := (.inl u.2.2 : L2.Key)) (v := .ref t3)
          refine ⟨_, _, _, _, ks2, rfl, upd_same, (upd_ne ndc.symm).trans (s910 _ _ ec2), by omega, by omega, ?_, ?_, (upd_ne dq.symm).trans (s910 _ _ eq2), (hus2.keep s910).updD ed3, (c6.trans s910).over nd ed3⟩
          · rw [htm]
            exact ((hK2.keep s910).snoc (l := unrot u) e10).upd ed3
          · rw [htm]
            exact hS2
        · rintro σ H5 ⟨v4, v5, v6, kn, ks, rfl, ed, ec, lkn, lks, hK, hS, eq, hus2, c5⟩
          rw [hus2.1, List.take_length] at hK
          repeat first | walk_at "rd" | walk_at "rdi"
          refine ⟨by omega, by omega, fun L2_ hL2 => lc_range (lo := 0) (n := n.toNat) (fun j H' => ∃ acc : List V, H' L2_ = some (.lst acc) ∧ acc.length = j ∧ (∀ h : Nat, h < j → ∃ t : Addr, acc[h]? = some (.ref t) ∧ H' t = some (.tup ((nm h).map V.int))) ∧ Same H5 H') ⟨[], upd_same, rfl, fun h hh => absurd hh (by omega), Same.new hL2⟩ ?_ ?_⟩
          · rintro j H6 hj ⟨acc, g1, g2, g3, s6⟩
            have hjn : (0 + (j : Int)) = (j : Int) := by omega
            obtain ⟨tn, hv, htn⟩ := hK.keep s6 (j : Int) (by
              by_cases c : (j : Int) = 0
              · exact .inl c
              · exact .inr ((List.Perm.mem_iff (show (recvs (us.map unrot)).Perm (recvs rs) from ps.map _)).mpr (hQ.all _ (by omega) (by omega))))
            have ed := s6 _ _ ed
            repeat walk_at "rd"
            refine ⟨rfl, ?_⟩
            repeat walk_at "rd"
            refine r_dget ?_
            repeat walk_at "rd"
            rw [hjn]
            refine r_getK ed hv ?_
            refine ⟨_, g1, small1000 (by omega), acc ++ [.ref tn], upd_same, by rw [List.length_append, g2]; rfl, fun h hh => ?_, s6.over hL2 g1⟩
            have keep : ∀ {t : Addr} {zs : List V}, H6 t = some (.tup zs) → L2.upd H6 L2_ (.lst (acc ++ [V.ref tn])) t = some (.tup zs) := fun e => (upd_ne (fun y => by rw [y, g1] at e; cases e)).trans e
            by_cases c : h < j
            · obtain ⟨t, e1, e2⟩ := g3 h c
              exact ⟨t, by rw [List.getElem?_append_left (by omega)]; exact e1, keep e2⟩
            · obtain rfl : h = j := by omega
              exact ⟨tn, by rw [List.getElem?_append_right (by omega), g2, Nat.sub_self]; rfl, keep htn⟩
          · rintro H6 ⟨acc, g1, g2, g3, s6⟩
            repeat walk_at "rd"
            exact k L2_ acc H6 (c5.trans s6) g1 ⟨by omega, fun h hh => g3 h (by omega)⟩
end

/-! ### a right name checked: one root at 0, no turns -/
theorem not_whole (z : V) (zs : List V) : ¬ (HT.sIx (z :: zs).length 0 (some 1) = 0 ∧ HT.sIx (z :: zs).length (z :: zs).length none = (z :: zs).length) := by
  intro h
  have h := h.1
  simp [HT.sIx] at h
theorem cut_one (z : V) (zs : List V) : cutV (z :: zs) (some 1) none = zs := by
  unfold cutV
  simp [HT.sIx]
theorem sum_rng : ∀ zs : List Int, (∀ z, z ∈ zs → 0 ≤ z ∧ z ≤ 1000000000000000) → 0 ≤ zs.sum ∧ zs.sum ≤ zs.length * 1000000000000000
  | [], _ => ⟨Int.le_refl _, by simp⟩
  | z :: zs, h => by
    obtain ⟨h1, h2⟩ := sum_rng zs fun y hy => h y (List.mem_cons_of_mem _ hy)
    have h3 := h z (List.mem_cons_self ..)
    rw [List.sum_cons, List.length_cons, Int.natCast_add, Int.add_mul]
    omega
def spWrongN (K : PySem.W.Frag) : Sp := fun vs H Q _ => ∃ (p r : Addr) (zs : List Int), vs = [.ref p, .non, .ref r] ∧ H p = some (.tup (.int 0 :: zs.map V.int)) ∧ SqT K H r [.int 0] ∧ zs.length ≤ 199 ∧ (∀ z, z ∈ zs → 0 ≤ z ∧ z ≤ 1000000000000000) ∧ ∀ H', Same H H' → Q .non H'
section
variable {P : Program} {w : World} {K : PySem.W.Frag} {mg : Str → Option Value} {base : Heap} {a : Adr}
theorem ok_wrong_in_name (T : Txt K mg base a) : FnOk P w K mg base CX0 4 a.a_wrong_in_name a.d_wrong_in_name ["thing", "turns", "roots"] (spWrongN K) := by
  refine T.F_wrong_in_name.ok sc_wrong_in_name (fun vs H Q E h => ?_) (fun cdv A outer s H vs Q E hr h => ?_)
  · obtain ⟨p, r, zs, rfl, _⟩ := h
    rfl
  · obtain ⟨p, r, zs, rfl, ep, er, hl, hz, k⟩ := h
    refine ⟨_, (pss_cons (ps_if (PW.pt (pw_or (pt_not (pt_val (pe_callB call_isi (by rfl) T.n_isinstance (by decide +kernel) (pa_cons (pv 0) (pa_cons (pe_bltn (v := .ty "tuple") (u := .type "tuple") (by rfl) T.n_tuple (by decide +kernel) rfl) pa_nil))))) (pw_or1 (pt_not (pt_chain op_le op_le pe_int (pe_callB call_len_seq (by rfl) T.n_len (by decide +kernel) (pa_cons (pv 0) pa_nil)) (pe_glob (v := .int 200) (by rfl) T.g_LONGEST_NAME.choose_spec ⟨_, rfl⟩)))))) (pss_one (ps_ret (pe_un un_neg pe_int)))
 pss_nil)
 (pss_cons (ps_set (i := 3) sc_wrong_in_name.nd rfl (Or.inl rfl) (pe_ifExp (pt_cmpR op_isNo (pv 1) pe_non (nomark _)) (pe_glob (v := .int 1000000000000000) (by rfl) T.g_GREATEST_ITEM.choose_spec ⟨_, rfl⟩) (pe_op op_sub (pv 1) pe_int)))
 (pss_cons (ps_for (by exact PassesOwn.never) rfl (pi_enumS (by rfl) T.n_enumerate (pa_cons (pv 0) pa_nil)) (pg_tup (by rfl) (pgs_cons (pg_name (i := 4) sc_wrong_in_name.nd rfl (Or.inl rfl)) (pgs_cons (pg_name (i := 5) sc_wrong_in_name.nd rfl (Or.inl rfl)) pgs_nil)))
 (pss_one (ps_if (pt_not (pt_val (pe_call (ok_is_between T) (hr.mono (by decide)) (by rfl) T.g_is_between T.F_is_between.kp T.b_is_between .nil pass0 (pa_cons (pv 5) (pa_cons pe_int (pa_cons (pe_ifExp (pt_cmpR op_eq (pv 4) pe_int (nomark _)) (pe_op op_sub (pe_callB call_len_seq (by rfl) T.n_len (by decide +kernel) (pa_cons (pv 2) pa_nil)) pe_int) (pv 3)) pa_nil)))))) (pss_one (ps_ret (pv 4)))
 pss_nil)))
 (pss_one (ps_ret pe_non))))), ?_⟩
    walk_at "rdi"
    repeat walk_at "rd"
    refine r_isiTu true ep (by decide +kernel) ?_
    repeat walk_at "rd"
    have hlen : ((V.int 0 :: zs.map V.int).length : Int) = zs.length + 1 := by rw [List.length_cons, List.length_map]; omega
    rw [hlen]
    refine ite_tt (by omega) ?_
    repeat walk_at "rd"
    refine r_nDT (by omega) ?_
    repeat walk_at "rd"
    refine r_enS (xs := .int 0 :: zs.map V.int) (by intro QA q; (repeat walk_at "rd"); exact q) (.inr (SqT.of ep)) (fun i σ H1 => ∃ v5 v6 : Option V, σ = [some (.ref p), some .non, some (.ref r), some (.int 1000000000000000), v5, v6] ∧ Same H H1) ⟨_, _, rfl, Same.refl _⟩ (fun i σ H' ⟨_, _, _, s⟩ => s) ?_ ?_
    · rintro i x σ H2 u2 H3 hx ⟨v5, v6, rfl, s2⟩ nu2 rfl
      have s3 : Same H (upd H2 u2 (.tup [.int (i : Nat), x])) := s2.trans (Same.new nu2)
      have er := sqT_keep er s3
      obtain ⟨z, hz1, rfl⟩ := int_of_get (ns := 0 :: zs) hx
      repeat walk_at "rd"
      refine ite_d (fun i0 => ?_) (fun i0 => ?_)
      · obtain rfl : i = 0 := by omega
        obtain rfl : 0 = z := by simpa using hz1
        repeat walk_at "rd"
        refine r_lenS (.inr er) ?_
        repeat walk_at "rd"
        refine r_between ?_
        repeat walk_at "rd"
        refine r_nDT (by decide) ?_
        repeat first | exact ⟨_, _, rfl, s3⟩ | walk_at "rd"
      · have hzz : z ∈ zs := by
          cases i with
          | zero => exact absurd rfl i0
          | succ i => exact List.mem_iff_getElem?.mpr ⟨i, by simpa using hz1⟩
        repeat walk_at "rd"
        refine r_between ?_
        repeat walk_at "rd"
        refine r_nDT (hz z hzz) ?_
        repeat first | exact ⟨_, _, rfl, s3⟩ | walk_at "rd"
    · rintro σ H2 ⟨v5, v6, rfl, s2⟩
      repeat first | exact k _ s2 | walk_at "rd"
end

/-! ### the time at which a name is known: one root at 0, no turns, a right name -/
theorem at_roots {rs : List Int} {z : Int} (h0 : 0 ≤ z) (h1 : z ≤ rs.length - 1) : atI (rs.map V.int) z = some (.int (rs.getD z.toNat 0)) := by
  obtain ⟨i, rfl⟩ : ∃ i : Nat, z = i := ⟨z.toNat, by omega⟩
  have hi : i < rs.length := by omega
  refine atI_nat ?_
  rw [List.getElem?_map, List.getElem?_eq_getElem hi, Int.toNat_natCast, List.getD_eq_getElem?_getD, List.getElem?_eq_getElem hi]
  rfl
theorem ok1 : RootsOk [0] := ⟨by decide, by decide, by decide, by decide, trivial⟩
def spTime0 (K : PySem.W.Frag) (C : Addr) : Sp := fun vs H Q _ => ∃ (t p : Addr) (D G : Int) (zs : List Int), vs = [.ref t, .ref p] ∧ TreeAt K C H t D G none [0] ∧ H p = some (.tup (.int 0 :: zs.map V.int)) ∧ zs.length ≤ 199 ∧ (∀ z, z ∈ zs → 0 ≤ z ∧ z ≤ 1000000000000000) ∧ ∀ H', Same H H' → Q (.int (zs.length * D + zs.sum * G)) H'
def spKnown0 (K : PySem.W.Frag) (M : Addr) : Sp := fun vs H Q _ => ∃ (m p r : Addr) (o l g : Int) (zs : List Int), vs = [.ref m, .ref p, .non, .ref r] ∧ MachAt M H m o l g ∧ (0 ≤ o ∧ o ≤ 1000000000) ∧ (0 ≤ l ∧ l ≤ 1000000000) ∧ (1 ≤ g ∧ g ≤ 1000000000) ∧ 0 < 2 * o + l ∧ H p = some (.tup (.int 0 :: zs.map V.int)) ∧ SqT K H r [.int 0] ∧ zs.length ≤ 199 ∧ (∀ z, z ∈ zs → 0 ≤ z ∧ z ≤ 1000000000000000) ∧ ∀ H', Same H H' → Q (.int (zs.length * (2 * o + l) + zs.sum * gapOf o g)) H'
section
variable {P : Program} {w : World} {K : PySem.W.Frag} {mg : Str → Option Value} {base : Heap} {a : Adr}
theorem ok_check_name (T : Txt K mg base a) : FnOk P w K mg base CX0 5 a.a_check_name a.d_check_name ["thing", "turns", "roots"] (spWrongN K) := by
  refine T.F_check_name.ok sc_check_name (fun vs H Q E h => ?_) (fun cdv A outer s H vs Q E hr h => ?_)
  · obtain ⟨p, r, zs, rfl, _⟩ := h
    rfl
  · obtain ⟨p, r, zs, rfl, ep, er, hl, hz, k⟩ := h
    refine ⟨_, (pss_cons (ps_set (i := 3) sc_check_name.nd rfl (Or.inl rfl) (pe_call (ok_wrong_in_name T) (hr.mono (by decide)) (by rfl) T.g_wrong_in_name T.F_wrong_in_name.kp T.b_wrong_in_name .nil pass0 (pa_cons (pv 0) (pa_cons (pv 1) (pa_cons (pv 2) pa_nil)))))
 (pss_one (ps_if (pt_cmpR op_notNo (pv 3) pe_non (nomark _)) (pss_one ps_never)
 pss_nil))), ?_⟩
    repeat walk_at "rd"
    refine ⟨p, r, zs, rfl, ep, er, hl, hz, fun H1 s1 => ?_⟩
    repeat first | exact k _ s1 | walk_at "rd" | walk_at "rdi"
theorem ok_time_of (T : Txt K mg base a) : FnOk P w K mg base CX0 1 a.a_time_of a.d_time_of ["tree", "name"] (spTime0 K a.c_Tree) := by
  refine T.F_time_of.ok sc_time_of (fun vs H Q E h => ?_) (fun cdv A outer s H vs Q E hr h => ?_)
  · obtain ⟨t, p, D, G, zs, rfl, _⟩ := h
    rfl
  · obtain ⟨t, p, D, G, zs, rfl, ⟨⟨dx, rt, pw, ht, hrt, hpw⟩, D0, D9, G0, G9, T0, R0⟩, hp, hl, hz, k⟩ := h
    refine ⟨_, (pss_one (ps_ret (pe_op op_add (pe_op op_add (pe_ix ix_tup (pe_fld (pv 0) rfl) (pe_ix ix_tup (pv 1) pe_int (fun _ _ => rfl)) (fun _ _ => rfl)) (pe_op op_mul (pe_op op_sub (pe_callB call_len_seq (by rfl) T.n_len (by decide +kernel) (pa_cons (pv 1) pa_nil)) pe_int) (pe_fld (pv 0) rfl))) (pe_op op_mul (pe_callB (cr_sumT rfl) (by rfl) T.n_sum (by decide +kernel) (pa_cons (pe_slice sl_tup (pv 1) (po_some pe_int) po_none) pa_nil)) (pe_fld (pv 0) rfl))))), ?_⟩
    repeat walk_at "rd"
    refine r_ixT hp (v := .int 0) (atI_nat (j := 0) rfl) ?_
    refine ⟨rt, _, 0, _, rfl, rfl, hrt, at_roots (by decide) (by decide), ?_⟩
    repeat walk_at "rd"
    refine r_slT (SqT.of hp) (not_whole _ _) (fun q H1 nq s1 e1 => ?_)
    rw [cut_one] at e1
    repeat walk_at "rd"
    refine ⟨q, zs, rfl, SqT.of e1, ?_⟩
    have hs := sum_rng zs hz
    have ht := s1 _ _ ht
    repeat walk_at "rd"
    rw [show ((V.int 0 :: zs.map V.int).length : Int) - 1 = zs.length by rw [List.length_cons, List.length_map]; omega, show ([0] : List Int).getD (0 : Int).toNat 0 = 0 from rfl, Int.zero_add]
    exact k _ s1
theorem ok_known_at (T : Txt K mg base a) : FnOk P w K mg base CX0 6 a.a_known_at a.d_known_at ["machine", "name", "turns", "roots"] (spKnown0 K a.c_Machine) := by
  refine T.F_known_at.ok sc_known_at (fun vs H Q E h => ?_) (fun cdv A outer s H vs Q E hr h => ?_)
  · obtain ⟨m, p, r, o, l, g, zs, rfl, _⟩ := h
    rfl
  · obtain ⟨m, p, r, o, l, g, zs, rfl, hm, ho, hl, hg, hp, ep, er, hl9, hz, k⟩ := h
    refine ⟨_, (pss_cons (ps_set (i := 4) sc_known_at.nd rfl (Or.inl rfl) (pe_make T.mk_Tree (ok_Tree_init T) (hr.mono (by decide)) (by rfl) T.g_Tree T.b_Tree_init .nil pass0 (pa_cons (pv 0) (pa_cons (pv 2) (pa_cons (pv 3) pa_nil)))))
 (pss_cons (ps_expr (pe_call (ok_check_name T) (hr.mono (by decide)) (by rfl) T.g_check_name T.F_check_name.kp T.b_check_name .nil pass0 (pa_cons (pv 1) (pa_cons (pv 2) (pa_cons (pv 3) pa_nil)))))
 (pss_one (ps_ret (pe_call (ok_time_of T) (hr.mono (by decide)) (by rfl) T.g_time_of T.F_time_of.kp T.b_time_of .nil pass0 (pa_cons (pv 4) (pa_cons (pv 1) pa_nil))))))), ?_⟩
    repeat walk_at "rd"
    refine r_Tree (T := none) (rs := [0]) hm ho hl hg hp trivial (.inr er) ok1 (fun t H1 nt ht s1 => ?_)
    repeat walk_at "rd"
    refine ⟨p, r, zs, rfl, s1 _ _ ep, sqT_keep er s1, hl9, hz, fun H2 s2 => ?_⟩
    have s12 := s1.trans s2
    repeat walk_at "rd"
    refine ⟨t, p, _, _, zs, rfl, ht.keep s2, s12 _ _ ep, hl9, hz, fun H3 s3 => ?_⟩
    exact k _ (s12.trans s3)
end

/-! ### != of two lists of the same items -/
theorem same_items {P : Program} {w : World} {K : PySem.W.Frag} {A : Around} {s : Shared} : ∀ {xs : List V} {us ws : List Value}, (∀ v, v ∈ xs → flatB v = true ∨ ∃ p, v = .ref p) → Vals xs us → Vals xs ws → ∀ j (h1 : j < us.length) (h2 : j < ws.length), SeqAt.EqAt A s us[j] ws[j] true
  | [], us, ws, _, r1, _, j, h1, _ => by cases r1; exact absurd h1 (Nat.not_lt_zero j)
  | x :: xs, us, ws, hf, r1, r2, j, h1, h2 => by
    cases r1 with
    | cons a1 b1 =>
      cases r2 with
      | cons a2 b2 =>
        cases j with
        | zero =>
          rcases hf x (List.mem_cons_self ..) with h | ⟨p, rfl⟩
          · exact eqAt_same a1 a2 h
          · rename_i y1 _ y2 _
            obtain rfl : y1 = Value.ref p := a1
            obtain rfl : y2 = Value.ref p := a2
            exact SeqAt.EqAt.same _
        | succ j => exact same_items (P := P) (w := w) (K := K) (fun v hv => hf v (List.mem_cons_of_mem _ hv)) b1 b2 j (Nat.lt_of_succ_lt_succ h1) (Nat.lt_of_succ_lt_succ h2)
/-- xs != ys, two lists of the same items: it is false -/
def rNeSame (K : PySem.W.Frag) : R2 := fun x y H Q => ∃ (a b : Addr) (xs : List V), x = .ref a ∧ y = .ref b ∧ SqL K H a xs ∧ SqL K H b xs ∧ (∀ v, v ∈ xs → flatB v = true ∨ ∃ p, v = .ref p) ∧ Q (.bl false) H
theorem op_neSame {X : Cx} (hu : X.A.units + 64 < cLine) : OpR X (compareOp .NotEq) (rNeSame X.K) := by
  intro pins s σ H x y v u Q I rx ry h
  obtain ⟨a, b, xs, rfl, rfl, ha, hb, hf, q⟩ := h
  obtain rfl : v = Value.ref a := rx
  obtain rfl : u = Value.ref b := ry
  obtain ⟨us, r1, p1, _⟩ := I.list ha
  obtain ⟨ws, r2, p2, _⟩ := I.list hb
  have hsz : us.toArray.size = ws.toArray.size := by
    rw [List.size_toArray, List.size_toArray, ← r1.length, ← r2.length]
  have go := SeqAt.RcNeAt.lists (A := X.A) (e := fun _ => true) p1.isList p2.isList hsz (by omega) (fun j h1 h2 => by
    have k := same_items (P := X.prog) (w := X.w) (K := X.K) (A := X.A.in1) (s := s) hf r1 r2 j (by simpa using h1) (by simpa using h2)
    simpa using k)
  refine go X.prog X.w _ _ ?_
  rw [show ((List.range us.toArray.size).all fun _ => true) = true from List.all_eq_true.mpr fun _ _ => rfl]
  exact ⟨.bl false, H, I, rfl, q⟩

/-! ### the machine, the source, the tables: what a law keeps -/
structure Bt (M p q m : Addr) (o l g : Int) (H : Hp) : Prop where
  hs : SrcAt H p q
  hm : MachAt M H m o l g
  ht : TbsOk H
theorem Bt.keep {M p q m : Addr} {o l g : Int} {H H' : Hp} (h : Bt M p q m o l g H) (s : Same H H') : Bt M p q m o l g H' := ⟨h.hs.keep s, h.hm.keep s, s.ts h.ht⟩
theorem Bt.mp {M p q m : Addr} {o l g : Int} {H : Hp} (h : Bt M p q m o l g H) : m ≠ p := fun z => by
  obtain ⟨dx, e⟩ := h.hm
  obtain ⟨cs, i, big, cnt, st, h1, _⟩ := h.hs
  rw [z, h1] at e
  cases e
theorem Bt.but {M p q m : Addr} {o l g : Int} {H H' : Hp} (h : Bt M p q m o l g H) (hs : SrcAt H' p q) (b : But p H H') : Bt M p q m o l g H' := ⟨hs, h.hm.but b h.mp, b.tabs h.hs h.ht⟩

section
variable {P : Program} {w : World} {K : PySem.W.Frag} {mg : Str → Option Value} {base : Heap} {a : Adr}
set_option maxHeartbeats 0 in
theorem ok__law_same_names (T : Txt K mg base a) : FnOk P w K mg base CX0 2 a.a__law_same_names a.d__law_same_names ["_law_thing", "_law_due"] spSameNames := by
  refine T.F__law_same_names.ok sc__law_same_names (fun vs H Q E h => ?_) (fun cdv A outer s H vs Q E hr h => ?_)
  · obtain ⟨p, q, xs, ys, n, nm, rfl, _⟩ := h
    rfl
  · obtain ⟨p, q, xs, ys, n, nm, rfl, ep, eq, hX, hY, hn, hl, k⟩ := h
    refine ⟨_, (pss_cons (ps_if (PW.pt (pw_or (pt_not (pt_val (pe_callB call_isi (by rfl) T.n_isinstance (by decide +kernel) (pa_cons (pv 0) (pa_cons (pe_bltn (v := .ty "list") (u := .type "list") (by rfl) T.n_list (by decide +kernel) rfl) pa_nil))))) (pw_or1 (pt_cmpR op_ne (pe_callB call_len_seq (by rfl) T.n_len (by decide +kernel) (pa_cons (pv 0) pa_nil)) (pe_callB call_len_seq (by rfl) T.n_len (by decide +kernel) (pa_cons (pv 1) pa_nil)) (nomark _))))) (pss_one (ps_ret pe_bl))
 pss_nil)
 (pss_cons (ps_for (by exact PassesOwn.never) rfl (pi_range1 (by rfl) T.n_range (pa_cons (pe_callB call_len_seq (by rfl) T.n_len (by decide +kernel) (pa_cons (pv 1) pa_nil)) pa_nil)) (pg_name (i := 2) sc__law_same_names.nd rfl (Or.inl rfl))
 (pss_cons (ps_if (PW.pt (pw_or (pt_not (pt_val (pe_callB call_isi (by rfl) T.n_isinstance (by decide +kernel) (pa_cons (pe_ix ix_list (pv 0) (pv 2) (fun _ _ => rfl)) (pa_cons (pe_bltn (v := .ty "tuple") (u := .type "tuple") (by rfl) T.n_tuple (by decide +kernel) rfl) pa_nil))))) (pw_or1 (pt_cmpR op_ne (pe_callB call_len_seq (by rfl) T.n_len (by decide +kernel) (pa_cons (pe_ix ix_list (pv 0) (pv 2) (fun _ _ => rfl)) pa_nil)) (pe_callB call_len_seq (by rfl) T.n_len (by decide +kernel) (pa_cons (pe_ix ix_list (pv 1) (pv 2) (fun _ _ => rfl)) pa_nil)) (nomark _))))) (pss_one (ps_ret pe_bl))
 pss_nil)
 (pss_one (ps_for (by exact PassesOwn.never) rfl (pi_range1 (by rfl) T.n_range (pa_cons (pe_callB call_len_seq (by rfl) T.n_len (by decide +kernel) (pa_cons (pe_ix ix_list (pv 1) (pv 2) (fun _ _ => rfl)) pa_nil)) pa_nil)) (pg_name (i := 3) sc__law_same_names.nd rfl (Or.inl rfl))
 (pss_one (ps_if (pt_not (pt_val (pe_call (ok__law_is T) (hr.mono (by decide)) (by rfl) T.g__law_is T.F__law_is.kp T.b__law_is .nil pass0 (pa_cons (pe_ix ix_tup (pe_ix ix_list (pv 0) (pv 2) (fun _ _ => rfl)) (pv 3) (fun _ _ => rfl)) (pa_cons (pe_ix ix_tup (pe_ix ix_list (pv 1) (pv 2) (fun _ _ => rfl)) (pv 3) (fun _ _ => rfl)) pa_nil))))) (pss_one (ps_ret pe_bl))
 pss_nil))))))
 (pss_one (ps_ret pe_bl)))), ?_⟩
    have lx := hX.1
    have ly := hY.1
    repeat first | walk_at "rd" | walk_at "rdi"
    refine r_isi (n := "list") (b := true) (.base (.lst ep)) (kit_ty (by decide +kernel)) ?_
    repeat first | walk_at "rd" | walk_at "rdi"
    refine r_nDT (by omega) ?_
    repeat first | walk_at "rd" | walk_at "rdi"
    refine ⟨by omega, by omega, for_range (lo := 0) (n := (ys.length : Int).toNat) (fun i σ H' => ∃ v2 v3 : Option V, σ = [some (.ref p), some (.ref q), v2, v3] ∧ H' = H) ⟨_, _, rfl, rfl⟩ ?_ ?_⟩
    · rintro i σ H1 hi ⟨v2, v3, rfl, rfl⟩
      have hin : (i : Int) < n := by omega
      obtain ⟨t1, e1, et1⟩ := hX.2 i hin
      obtain ⟨t2, e2, et2⟩ := hY.2 i hin
      have hll := hl i hin
      have a1 : atI xs (0 + (i : Int)) = some (.ref t1) := by rw [Int.zero_add]; exact atI_nat e1
      have a2 : atI ys (0 + (i : Int)) = some (.ref t2) := by rw [Int.zero_add]; exact atI_nat e2
      repeat first | walk_at "rd" | walk_at "rdi"
      refine r_ixL ep a1 ?_
      repeat first | walk_at "rd" | walk_at "rdi"
      refine r_isiTu true et1 (by decide +kernel) ?_
      repeat first | walk_at "rd" | walk_at "rdi"
      refine r_ixL ep a1 ?_
      repeat first | walk_at "rd" | walk_at "rdi"
      refine r_ixL eq a2 ?_
      repeat first | walk_at "rd" | walk_at "rdi"
      repeat first | walk_at "rd" | walk_at "rdi"
      refine r_ixL eq a2 ?_
      repeat first | walk_at "rd" | walk_at "rdi"
      refine ⟨by omega, by rw [List.length_map]; omega, for_range (lo := 0) (n := (((nm i).map V.int).length : Int).toNat) (fun j σ H' => ∃ v3 : Option V, σ = [some (.ref p), some (.ref q), some (.int (0 + (i : Nat))), v3] ∧ H' = H1) ⟨_, rfl, rfl⟩ ?_ ?_⟩
      · rintro j σ H2 hj ⟨v3, rfl, rfl⟩
        rw [List.length_map] at hj
        have hjl : j < (nm i).length := by omega
        have a3 : atI ((nm i).map V.int) (0 + (j : Int)) = some (.int ((nm i)[j]'hjl)) := by
          rw [Int.zero_add]
          refine atI_nat ?_
          rw [List.getElem?_map, List.getElem?_eq_getElem hjl]
          rfl
        repeat first | walk_at "rd" | walk_at "rdi"
        refine r_ixL ep a1 ?_
        repeat first | walk_at "rd" | walk_at "rdi"
        refine r_ixT et1 a3 ?_
        repeat first | walk_at "rd" | walk_at "rdi"
        refine r_ixL eq a2 ?_
        repeat first | walk_at "rd" | walk_at "rdi"
        refine r_ixT et2 a3 ?_
        repeat first | walk_at "rd" | walk_at "rdi"
        refine ⟨(nm i)[j]'hjl, (nm i)[j]'hjl, rfl, ?_⟩
        rw [decide_eq_true (show (nm i)[j]'hjl = (nm i)[j]'hjl from rfl)]
        repeat first | exact ⟨_, rfl, rfl⟩ | walk_at "rd" | walk_at "rdi"
      · rintro σ H2 ⟨v3, rfl, rfl⟩
        repeat first | exact ⟨_, _, rfl, rfl⟩ | walk_at "rd" | walk_at "rdi"
    · rintro σ H1 ⟨v2, v3, rfl, rfl⟩
      repeat first | exact k | walk_at "rd" | walk_at "rdi"
end

/-! ### the plan of the same shape in which each row starts as early as it can -/
theorem RightQ.none {D G n : Int} {rs : List L3} (h : RightQ D G n rs) (hst : ∀ l, l ∈ rs → 0 ≤ l.2.2 ∧ l.2.2 ≤ 1000000000000000) (hG : 1 ≤ G) : lawF D G n rs = Option.none := by
  have h1 : formS (rs.map (·.2.2)) = Option.none := form_ok fun s hs => by
    obtain ⟨l, hl, rfl⟩ := List.mem_map.mp hs
    exact hst l hl
  have h2 : handF n 0 1 (rs.map fun l => (l.1, l.2.1)) = Option.none := hand_ok fun g hg => by
    obtain ⟨l, hl, rfl⟩ := List.mem_map.mp hg
    exact h.hands l hl
  have h3 := again_ok h.nodup
  have h4 := nobody_ok h.all
  have uniq : ∀ l m, l ∈ rs → m ∈ rs → l.2.1 = m.2.1 → l = m := fun l m hl hm e => by
    obtain ⟨i, hi⟩ := List.mem_iff_getElem?.mp hl
    obtain ⟨j, hj⟩ := List.mem_iff_getElem?.mp hm
    have g1 : (recvs rs)[i]? = some l.2.1 := by unfold recvs; rw [List.getElem?_map, hi]; rfl
    have g2 : (recvs rs)[j]? = some m.2.1 := by unfold recvs; rw [List.getElem?_map, hj]; rfl
    obtain ⟨k1, k2⟩ := List.getElem?_eq_some_iff.mp g1
    obtain ⟨k3, k4⟩ := List.getElem?_eq_some_iff.mp g2
    have nd := List.pairwise_iff_getElem.mp h.nodup
    rcases Nat.lt_trichotomy i j with c | c | c
    · exact absurd (k2.trans (e.trans k4.symm)) (nd i j k1 k3 c)
    · subst c; exact Option.some.inj (hi.symm.trans hj)
    · exact absurd (k4.trans (e.symm.trans k2.symm)) (nd j i k3 k1 c)
  have h5 : earlyL D rs = Option.none := by
    unfold earlyL
    rw [first_none fun i hi => ?_]
    · rfl
    · have hl := List.getElem?_eq_getElem hi
      rw [getD_of hl]
      have hm : rs[i] ∈ rs := List.getElem_mem hi
      refine decide_eq_false fun ⟨c1, c2⟩ => ?_
      obtain ⟨m, hm1, e1, e2⟩ := h.known _ hm (by omega)
      have b := (h.hands _ hm).1
      obtain ⟨m2, hm2, e3, e4⟩ := known_mem (D := D) (h.all rs[i].1 (by omega) (by omega))
      rw [e4, uniq m2 m hm2 hm1 (e3.trans e1.symm)] at c2
      omega
  have h6 : gapL G rs = Option.none := by
    unfold gapL
    rw [first_none fun i hi => ?_]
    · rfl
    · have hl := List.getElem?_eq_getElem hi
      rw [getD_of hl, List.any_eq_false]
      intro q hq he
      obtain ⟨e1, e2, e3⟩ := of_decide_eq_true he
      obtain ⟨j, hj⟩ := List.mem_iff_getElem?.mp hq
      have hji : j < i := by
        have := (List.getElem?_eq_some_iff.mp hj).1
        rw [List.length_take] at this
        omega
      rw [List.getElem?_take, if_pos hji] at hj
      have hq' : q ∈ rs := List.mem_iff_getElem?.mpr ⟨j, hj⟩
      have hm : rs[i] ∈ rs := List.getElem_mem hi
      have hne : q.2.1 ≠ rs[i].2.1 := fun e => by
        have g1 : (recvs rs)[j]? = some q.2.1 := by unfold recvs; rw [List.getElem?_map, hj]; rfl
        have g2 : (recvs rs)[i]? = some rs[i].2.1 := by unfold recvs; rw [List.getElem?_map, hl]; rfl
        obtain ⟨k1, k2⟩ := List.getElem?_eq_some_iff.mp g1
        obtain ⟨k3, k4⟩ := List.getElem?_eq_some_iff.mp g2
        exact (List.pairwise_iff_getElem.mp h.nodup) j i k1 k3 hji (by rw [k2, k4]; exact e)
      rcases h.gaps q _ hq' hm e1 hne with c | c <;> omega
  unfold lawF
  rw [h1, h2, h3, h4, h5, h6]
  rfl
theorem RightQ.uniq {D G n : Int} {rs : List L3} (h : RightQ D G n rs) {l m : L3} (hl : l ∈ rs) (hm : m ∈ rs) (e : l.2.1 = m.2.1) : l = m := by
  obtain ⟨i, hi⟩ := List.mem_iff_getElem?.mp hl
  obtain ⟨j, hj⟩ := List.mem_iff_getElem?.mp hm
  have g1 : (recvs rs)[i]? = some l.2.1 := by unfold recvs; rw [List.getElem?_map, hi]; rfl
  have g2 : (recvs rs)[j]? = some m.2.1 := by unfold recvs; rw [List.getElem?_map, hj]; rfl
  obtain ⟨k1, k2⟩ := List.getElem?_eq_some_iff.mp g1
  obtain ⟨k3, k4⟩ := List.getElem?_eq_some_iff.mp g2
  have nd := List.pairwise_iff_getElem.mp h.nodup
  rcases Nat.lt_trichotomy i j with c | c | c
  · exact absurd (k2.trans (e.trans k4.symm)) (nd i j k1 k3 c)
  · subst c; exact Option.some.inj (hi.symm.trans hj)
  · exact absurd (k4.trans (e.symm.trans k2.symm)) (nd j i k3 k1 c)
/-- the row of the earliest plan -/
def eRow (D G : Int) (nm : Int → List Int) (l : L3) : L3 := (l.1, l.2.1, timeN D G (nm l.2.1) - D)
def eRows (D G : Int) (nm : Int → List Int) (rs : List L3) : List L3 := rs.map (eRow D G nm)
theorem recvs_eRows {D G : Int} {nm : Int → List Int} {rs : List L3} : recvs (eRows D G nm rs) = recvs rs := by unfold recvs eRows; rw [List.map_map]; rfl
theorem timeN_nn {D G z0 : Int} {zs : List Int} (hD : 0 ≤ D) (hG : 0 ≤ G) (h0 : 0 ≤ z0) (hz : ∀ z, z ∈ zs → 0 ≤ z) : 0 ≤ timeN D G (z0 :: zs) := by
  unfold timeN
  have h1 : 0 ≤ (z0 :: zs).sum := by
    have : ∀ us : List Int, (∀ z, z ∈ us → 0 ≤ z) → 0 ≤ us.sum := fun us => by
      induction us with
      | nil => intro _; exact Int.le_refl _
      | cons u us ih => intro h; rw [List.sum_cons]; have := h u (List.mem_cons_self ..); have := ih fun z hz => h z (List.mem_cons_of_mem _ hz); omega
    refine this _ fun z hz' => ?_
    rcases List.mem_cons.mp hz' with rfl | h
    · exact h0
    · exact hz z h
  have h2 : 0 ≤ (((z0 :: zs).length : Int) - 1) * D := Int.mul_nonneg (by rw [List.length_cons]; omega) hD
  have h3 : 0 ≤ (z0 :: zs).sum * G := Int.mul_nonneg h1 hG
  omega
section
variable {D G n : Int} {rs : List L3} {nm : Int → List Int}
theorem NamesOk.e (hN : NamesOk D G n rs nm) {l : L3} (hl : l ∈ rs) : (eRow D G nm l).2.2 = timeN D G (nm l.1) + (idxOf rs l : Int) * G := by
  show timeN D G (nm l.2.1) - D = _
  rw [hN.row l hl, timeN_snoc]
  omega
theorem NamesOk.known0 (hQ : RightQ D G n rs) (hN : NamesOk D G n rs nm) (hD : 0 ≤ D) (hG : 0 ≤ G) {x : Int} (h0 : 0 ≤ x) (h1 : x < n) : 0 ≤ timeN D G (nm x) := by
  obtain ⟨zs, e, _, hz⟩ := hN.shape x h0 h1
  rw [e]
  exact timeN_nn hD hG (Int.le_refl _) fun z h => (hz z h).1
/-- among the rows of a sender the numbers go up with the starts -/
theorem idx_lt {l m : L3} (hl : l ∈ rs) (e : l.1 = m.1) (h : l.2.2 < m.2.2) : idxOf rs l < idxOf rs m := by
  unfold idxOf
  obtain ⟨i, hi⟩ := List.mem_iff_getElem?.mp hl
  have hi' := (List.getElem?_eq_some_iff.mp hi)
  have sp : rs = rs.take i ++ l :: rs.drop (i + 1) := by
    conv => lhs; rw [← List.take_append_drop i rs]
    rw [List.drop_eq_getElem_cons hi'.1, hi'.2]
  have le : ∀ us : List L3, us.countP (fun x => decide (x.1 = l.1 ∧ x.2.2 < l.2.2)) ≤ us.countP (fun x => decide (x.1 = m.1 ∧ x.2.2 < m.2.2)) := fun us => List.countP_mono_left fun x _ hx => by
    have := of_decide_eq_true hx
    exact decide_eq_true ⟨this.1.trans e, by omega⟩
  rw [sp, List.countP_append, List.countP_append, List.countP_cons, List.countP_cons, if_neg (by simp), if_pos (decide_eq_true ⟨e, h⟩)]
  have := le (rs.take i)
  have := le (rs.drop (i + 1))
  omega
theorem idx_inj (hQ : RightQ D G n rs) (hG : 0 < G) {l m : L3} (hl : l ∈ rs) (hm : m ∈ rs) (e : l.1 = m.1) : (idxOf rs l < idxOf rs m ↔ l.2.2 < m.2.2) := by
  constructor
  · intro h
    by_cases c : l.2.2 < m.2.2
    · exact c
    · by_cases d : m.2.2 < l.2.2
      · have := idx_lt hm e.symm d; omega
      · have : l = m := by
          by_cases r : l.2.1 = m.2.1
          · exact hQ.uniq hl hm r
          · rcases hQ.gaps l m hl hm e r with g | g <;> omega
        rw [this] at h; omega
  · exact idx_lt hl e
theorem early_right (hQ : RightQ D G n rs) (hN : NamesOk D G n rs nm) (hD : 0 < D) (hG : 0 < G) : RightQ D G n (eRows D G nm rs) where
  len := by unfold eRows; rw [List.length_map]; exact hQ.len
  hands := fun l hl => by obtain ⟨r, hr, rfl⟩ := List.mem_map.mp hl; exact hQ.hands r hr
  nodup := by rw [recvs_eRows]; exact hQ.nodup
  all := fun x h0 h1 => by rw [recvs_eRows]; exact hQ.all x h0 h1
  known := fun l hl h0 => by
    obtain ⟨r, hr, rfl⟩ := List.mem_map.mp hl
    obtain ⟨m, hm, e1, _⟩ := hQ.known r hr h0
    refine ⟨eRow D G nm m, List.mem_map.mpr ⟨m, hm, rfl⟩, e1, ?_⟩
    rw [hN.e hr, ← e1]
    show timeN D G (nm m.2.1) - D + D ≤ _
    have : 0 ≤ (idxOf rs r : Int) * G := Int.mul_nonneg (by omega) (by omega)
    omega
  gaps := fun l m hl hm e ne => by
    obtain ⟨r, hr, rfl⟩ := List.mem_map.mp hl
    obtain ⟨u, hu, rfl⟩ := List.mem_map.mp hm
    have e : r.1 = u.1 := e
    rw [hN.e hr, hN.e hu, e]
    have mul : ∀ {i j : Nat}, i < j → (i : Int) * G + G ≤ (j : Int) * G := fun {i j} h => by
      have : ((i : Int) + 1) * G ≤ (j : Int) * G := Int.mul_le_mul_of_nonneg_right (by omega) (by omega)
      rw [Int.add_mul, Int.one_mul] at this
      exact this
    rcases hQ.gaps r u hr hu e ne with g | g
    · left
      have := mul (idx_lt hr e (show r.2.2 < u.2.2 by omega))
      omega
    · right
      have := mul (idx_lt hu e.symm (show u.2.2 < r.2.2 by omega))
      omega
theorem early_start (hQ : RightQ D G n rs) (hN : NamesOk D G n rs nm) (hD : 0 < D) (hG : 0 < G) {l : L3} (hl : l ∈ rs) : 0 ≤ (eRow D G nm l).2.2 ∧ (eRow D G nm l).2.2 ≤ l.2.2 := by
  constructor
  · rw [hN.e hl]
    have h1 := hN.known0 hQ (by omega) (by omega) (hQ.hands l hl).1.1 (hQ.hands l hl).1.2
    have : 0 ≤ (idxOf rs l : Int) * G := Int.mul_nonneg (by omega) (by omega)
    omega
  · show timeN D G (nm l.2.1) - D ≤ _
    have := hN.early l hl
    omega
theorem idx_eRows (hQ : RightQ D G n rs) (hN : NamesOk D G n rs nm) (hG : 0 < G) {l : L3} (hl : l ∈ rs) : idxOf (eRows D G nm rs) (eRow D G nm l) = idxOf rs l := by
  unfold eRows
  show (rs.map (eRow D G nm)).countP _ = _
  rw [List.countP_map]
  unfold idxOf
  refine List.countP_congr fun m hm => ?_
  simp only [Function.comp, decide_eq_true_eq]
  show (m.1 = l.1 ∧ (eRow D G nm m).2.2 < (eRow D G nm l).2.2) ↔ _
  constructor
  · rintro ⟨e, h⟩
    refine ⟨e, ?_⟩
    rw [hN.e hm, hN.e hl, e] at h
    rw [← idx_inj hQ hG hm hl e]
    by_cases c : idxOf rs m < idxOf rs l
    · exact c
    · have : (idxOf rs l : Int) * G ≤ (idxOf rs m : Int) * G := Int.mul_le_mul_of_nonneg_right (by omega) (by omega)
      omega
  · rintro ⟨e, h⟩
    refine ⟨e, ?_⟩
    have := idx_lt hm e h
    rw [hN.e hm, hN.e hl, e]
    have : ((idxOf rs m : Int) + 1) * G ≤ (idxOf rs l : Int) * G := Int.mul_le_mul_of_nonneg_right (by omega) (by omega)
    rw [Int.add_mul, Int.one_mul] at this
    omega
theorem early_names (hQ : RightQ D G n rs) (hN : NamesOk D G n rs nm) (hG : 0 < G) : NamesOk D G n (eRows D G nm rs) nm where
  zero := hN.zero
  row := fun l hl => by
    obtain ⟨r, hr, rfl⟩ := List.mem_map.mp hl
    rw [idx_eRows hQ hN hG hr]
    exact hN.row r hr
  shape := hN.shape
  early := fun l hl => by
    obtain ⟨r, hr, rfl⟩ := List.mem_map.mp hl
    show timeN D G (nm r.2.1) ≤ timeN D G (nm r.2.1) - D + D
    omega
theorem eRows_twice (D G : Int) (nm : Int → List Int) (rs : List L3) : eRows D G nm (eRows D G nm rs) = eRows D G nm rs := by
  unfold eRows
  rw [List.map_map]
  exact List.map_congr_left fun l _ => rfl
end
/-- with so many there is the last of them -/
theorem count_last {α : Type} {p : α → Bool} : ∀ {L : List α} {c : Nat}, L.countP p = c + 1 → ∃ (j : Nat) (x : α), L[j]? = some x ∧ p x = true ∧ (L.take j).countP p = c
  | [], c, h => by simp at h
  | x :: L, c, h => by
    rw [List.countP_cons] at h
    by_cases z : L.countP p = 0
    · cases hx : p x with
      | false => rw [hx, if_neg Bool.false_ne_true] at h; omega
      | true =>
        rw [hx, if_pos rfl] at h
        refine ⟨0, x, rfl, hx, ?_⟩
        rw [List.take_zero, List.countP_nil]
        omega
    · obtain ⟨c', hc'⟩ : ∃ c', L.countP p = c' + 1 := ⟨L.countP p - 1, by omega⟩
      obtain ⟨j, y, e1, e2, e3⟩ := count_last hc'
      refine ⟨j + 1, y, e1, e2, ?_⟩
      rw [List.take_succ_cons, List.countP_cons, e3]
      omega

/-! ### names that are a tree, and their plan -/
def nAt (ns : List (List Int)) (i : Nat) : List Int := ns.getD i []
theorem nAt_of {ns : List (List Int)} {i : Nat} {x : List Int} (h : ns[i]? = some x) : nAt ns i = x := by
  unfold nAt
  rw [List.getD_eq_getElem?_getD, h]
  rfl
def posOf (x : List Int) : List (List Int) → Nat
  | [] => 0
  | y :: ys => if y = x then 0 else posOf x ys + 1
theorem posOf_get {x : List Int} : ∀ {ns : List (List Int)}, x ∈ ns → ns[posOf x ns]? = some x ∧ posOf x ns < ns.length ∧ ∀ j, j < posOf x ns → ns[j]? ≠ some x
  | [], h => by cases h
  | y :: ys, h => by
    unfold posOf
    by_cases e : y = x
    · rw [if_pos e, e]; exact ⟨rfl, Nat.zero_lt_succ _, fun j hj => absurd hj (Nat.not_lt_zero _)⟩
    · rw [if_neg e]
      have h' : x ∈ ys := (List.mem_cons.mp h).resolve_left fun z => e z.symm
      obtain ⟨a, b, c⟩ := posOf_get h'
      refine ⟨by rw [List.getElem?_cons_succ]; exact a, Nat.succ_lt_succ b, fun j hj => ?_⟩
      cases j with
      | zero => rw [List.getElem?_cons_zero]; exact fun z => e (Option.some.inj z)
      | succ j => rw [List.getElem?_cons_succ]; exact c j (by omega)
theorem nodup_at {α : Type} {ns : List α} (h : ns.Nodup) {i j : Nat} {x : α} (hi : ns[i]? = some x) (hj : ns[j]? = some x) : i = j := by
  obtain ⟨i1, i2⟩ := List.getElem?_eq_some_iff.mp hi
  obtain ⟨j1, j2⟩ := List.getElem?_eq_some_iff.mp hj
  have nd := List.pairwise_iff_getElem.mp h
  rcases Nat.lt_trichotomy i j with c | c | c
  · exact absurd (i2.trans j2.symm) (nd i j i1 j1 c)
  · exact c
  · exact absurd (j2.trans i2.symm) (nd j i j1 i1 c)
theorem posOf_at {ns : List (List Int)} (h : ns.Nodup) {i : Nat} {x : List Int} (hi : ns[i]? = some x) : posOf x ns = i :=
  nodup_at h (posOf_get (List.mem_iff_getElem?.mpr ⟨i, hi⟩)).1 hi
structure TreeN (ns : List (List Int)) : Prop where
  zero : ns[0]? = some [0]
  nodup : ns.Nodup
  shape : ∀ x, x ∈ ns → ∃ zs : List Int, x = 0 :: zs ∧ (zs.length : Int) ≤ (ns.length : Int) - 1 ∧ ∀ z, z ∈ zs → 0 ≤ z ∧ z ≤ (ns.length : Int) - 1
  sender : ∀ x z, x ≠ [] → x ++ [z] ∈ ns → x ∈ ns
  sib : ∀ x z, x ≠ [] → x ++ [z] ∈ ns → 0 < z → x ++ [z - 1] ∈ ns
theorem TreeN.perm {ns ms : List (List Int)} (h : TreeN ns) (p : ns.Perm ms) (h0 : ms[0]? = some [0]) : TreeN ms where
  zero := h0
  nodup := (List.Perm.nodup_iff p).mp h.nodup
  shape := fun x hx => by rw [← p.length_eq]; exact h.shape x (p.mem_iff.mpr hx)
  sender := fun x z hx hm => p.mem_iff.mp (h.sender x z hx (p.mem_iff.mpr hm))
  sib := fun x z hx hm hz => p.mem_iff.mp (h.sib x z hx (p.mem_iff.mpr hm) hz)
theorem TreeN.split {ns : List (List Int)} (h : TreeN ns) {i : Nat} (i1 : 1 ≤ i) (hi : i < ns.length) : ∃ x z, ns[i]? = some (x ++ [z]) ∧ x ≠ [] ∧ x ∈ ns ∧ 0 ≤ z ∧ z ≤ (ns.length : Int) - 1 := by
  have e := List.getElem?_eq_getElem hi
  have hm : ns[i] ∈ ns := List.getElem_mem hi
  obtain ⟨zs, hz, _, hb⟩ := h.shape _ hm
  have nz : zs ≠ [] := fun z => by
    rw [hz, z] at e
    exact absurd (nodup_at h.nodup e h.zero) (by omega)
  have el : zs = zs.dropLast ++ [zs.getLast nz] := (List.dropLast_concat_getLast nz).symm
  have eq : ns[i] = (0 :: zs.dropLast) ++ [zs.getLast nz] := by rw [hz, List.cons_append, ← el]
  have hb' := hb _ (List.getLast_mem nz)
  refine ⟨0 :: zs.dropLast, zs.getLast nz, by rw [e, eq], by simp, h.sender _ _ (by simp) (by rw [← eq]; exact hm), hb'.1, hb'.2⟩
def rowT (D G : Int) (ns : List (List Int)) (i : Nat) : L3 := ((posOf (nAt ns i).dropLast ns : Int), (i : Int), timeN D G (nAt ns i) - D)
def planL (D G : Int) (ns : List (List Int)) : List L3 := (List.range (ns.length - 1)).map fun i => rowT D G ns (i + 1)
theorem planL_len {D G : Int} {ns : List (List Int)} : (planL D G ns).length = ns.length - 1 := by unfold planL; rw [List.length_map, List.length_range]
theorem planL_get {D G : Int} {ns : List (List Int)} {i : Nat} (h : i + 1 < ns.length) : (planL D G ns)[i]? = some (rowT D G ns (i + 1)) := by
  unfold planL
  rw [List.getElem?_map, List.getElem?_range (by omega)]
  rfl
theorem recvs_planL {D G : Int} {ns : List (List Int)} : recvs (planL D G ns) = (List.range (ns.length - 1)).map fun i : Nat => ((i + 1 : Nat) : Int) := by
  unfold recvs planL
  rw [List.map_map]
  rfl
section
variable {D G : Int} {ns : List (List Int)}
theorem TreeN.rowAt (h : TreeN ns) {i : Nat} (i1 : 1 ≤ i) (hi : i < ns.length) : ∃ x z, ns[i]? = some (x ++ [z]) ∧ x ≠ [] ∧ x ∈ ns ∧ 0 ≤ z ∧ z ≤ (ns.length : Int) - 1 ∧ rowT D G ns i = ((posOf x ns : Int), (i : Int), timeN D G x + z * G) := by
  obtain ⟨x, z, e, a, b, c, d⟩ := h.split i1 hi
  refine ⟨x, z, e, a, b, c, d, ?_⟩
  unfold rowT
  rw [nAt_of e, List.dropLast_concat, timeN_snoc, show timeN D G x + D + z * G - D = timeN D G x + z * G by omega]
theorem TreeN.mem_plan (h : TreeN ns) {l : L3} (hl : l ∈ planL D G ns) : ∃ (i : Nat) (x : List Int) (z : Int), 1 ≤ i ∧ i < ns.length ∧ ns[i]? = some (x ++ [z]) ∧ x ≠ [] ∧ x ∈ ns ∧ 0 ≤ z ∧ z ≤ (ns.length : Int) - 1 ∧ l = ((posOf x ns : Int), (i : Int), timeN D G x + z * G) := by
  unfold planL at hl
  obtain ⟨i, hi, rfl⟩ := List.mem_map.mp hl
  have hi := List.mem_range.mp hi
  obtain ⟨x, z, e, a, b, c, d, f⟩ := h.rowAt (D := D) (G := G) (i := i + 1) (by omega) (by omega)
  exact ⟨i + 1, x, z, by omega, by omega, e, a, b, c, d, f⟩
theorem TreeN.pos_inj (_h : TreeN ns) {x y : List Int} (hx : x ∈ ns) (hy : y ∈ ns) (e : posOf x ns = posOf y ns) : x = y := by
  have a := (posOf_get hx).1
  have b := (posOf_get hy).1
  rw [e] at a
  exact Option.some.inj (a.symm.trans b)
theorem TreeN.time0 (h : TreeN ns) (hD : 0 ≤ D) (hG : 0 ≤ G) {x : List Int} (hx : x ∈ ns) : 0 ≤ timeN D G x := by
  obtain ⟨zs, rfl, _, hz⟩ := h.shape x hx
  exact timeN_nn hD hG (Int.le_refl _) fun z q => (hz z q).1
theorem TreeN.planQ (h : TreeN ns) (hD : 0 < D) (hG : 0 < G) : RightQ D G ns.length (planL D G ns) where
  len := by
    rw [planL_len]
    have := (List.getElem?_eq_some_iff.mp h.zero).1
    omega
  hands := fun l hl => by
    obtain ⟨i, x, z, i1, hi, e, a, b, c, d, rfl⟩ := h.mem_plan hl
    have p := posOf_get b
    refine ⟨⟨Int.natCast_nonneg _, Int.ofNat_lt.mpr p.2.1⟩, ⟨by show (1 : Int) ≤ i; omega, Int.ofNat_lt.mpr hi⟩, fun q => ?_⟩
    have q : (posOf x ns : Int) = i := q
    have q : posOf x ns = i := by omega
    rw [q, e] at p
    have := congrArg List.length (Option.some.inj p.1)
    rw [List.length_append, List.length_singleton] at this
    omega
  nodup := by
    rw [recvs_planL]
    unfold List.Nodup
    rw [List.pairwise_map]
    exact List.nodup_range.imp fun {a b} hab q => hab (by omega)
  all := fun x h0 h1 => by
    rw [recvs_planL]
    exact List.mem_map.mpr ⟨(x - 1).toNat, List.mem_range.mpr (by omega), by omega⟩
  known := fun l hl h0 => by
    obtain ⟨i, x, z, i1, hi, e, a, b, c, d, rfl⟩ := h.mem_plan hl
    have p := posOf_get b
    have h0 : (posOf x ns : Int) ≠ 0 := h0
    obtain ⟨y, u, e', a', b', c', d', f'⟩ := h.rowAt (D := D) (G := G) (i := posOf x ns) (by omega) p.2.1
    refine ⟨rowT D G ns (posOf x ns), ?_, by rw [f'], ?_⟩
    · unfold planL
      exact List.mem_map.mpr ⟨posOf x ns - 1, List.mem_range.mpr (by omega), by rw [show posOf x ns - 1 + 1 = posOf x ns by omega]⟩
    · unfold rowT
      dsimp only
      rw [nAt_of p.1]
      have : 0 ≤ z * G := Int.mul_nonneg c (by omega)
      omega
  gaps := fun l m hl hm e ne => by
    obtain ⟨i, x, z, i1, hi, ei, a, b, c, d, rfl⟩ := h.mem_plan hl
    obtain ⟨j, y, u, j1, hj, ej, a', b', c', d', rfl⟩ := h.mem_plan hm
    have e : (posOf x ns : Int) = posOf y ns := e
    obtain rfl := h.pos_inj b b' (by omega)
    have ne : (i : Int) ≠ j := ne
    have zu : z ≠ u := fun q => by
      subst q
      exact ne (by rw [nodup_at h.nodup ei ej])
    dsimp only
    have mul : ∀ {p q : Int}, p < q → p * G + G ≤ q * G := fun {p q} hpq => by
      have : (p + 1) * G ≤ q * G := Int.mul_le_mul_of_nonneg_right (by omega) (by omega)
      rw [Int.add_mul, Int.one_mul] at this
      exact this
    rcases Int.lt_or_gt_of_ne zu with q | q
    · have := mul q; left; omega
    · have := mul q; right; omega
end
theorem count_one {α : Type} [DecidableEq α] {a : α} : ∀ {l : List α}, l.Nodup → a ∈ l → l.countP (fun y => decide (y = a)) = 1
  | [], _, h => by cases h
  | x :: l, hn, h => by
    rw [List.nodup_cons] at hn
    rw [List.countP_cons]
    by_cases e : x = a
    · subst e
      rw [if_pos (decide_eq_true rfl), List.countP_eq_zero.mpr fun y hy => by
        rw [decide_eq_true_eq]
        rintro rfl
        exact hn.1 hy]
    · rw [if_neg (by rw [decide_eq_true_eq]; exact e), count_one hn.2 ((List.mem_cons.mp h).resolve_left fun z => e z.symm)]
theorem countP_split {α : Type} {p q r : α → Bool} (h : ∀ x, (if p x = true then 1 else 0) = (if q x = true then 1 else 0) + (if r x = true then 1 else 0)) : ∀ l : List α, l.countP p = l.countP q + l.countP r
  | [] => rfl
  | x :: l => by
    rw [List.countP_cons, List.countP_cons, List.countP_cons, countP_split h l, h x]
    omega
def kidB (x : List Int) (k : Int) (y : List Int) : Bool := decide (y.dropLast = x ∧ y ≠ [] ∧ y.getLastD 0 < k)
theorem kidB_snoc {x y : List Int} {k u : Int} : kidB x k (y ++ [u]) = decide (y = x ∧ u < k) := by
  unfold kidB
  rw [List.dropLast_concat, List.getLastD_concat]
  by_cases c : y = x ∧ u < k
  · rw [decide_eq_true c, decide_eq_true ⟨c.1, by simp, c.2⟩]
  · rw [decide_eq_false c, decide_eq_false fun z => c ⟨z.1, z.2.2⟩]
theorem TreeN.kids {ns : List (List Int)} (h : TreeN ns) {x : List Int} (hx : x ≠ []) {z : Int} (hz : 0 ≤ z) (hm : x ++ [z] ∈ ns) : ∀ k : Nat, (k : Int) ≤ z → x ++ [(k : Int)] ∈ ns := by
  intro k hk
  have : ∀ d : Nat, (d : Int) ≤ z → x ++ [z - d] ∈ ns := by
    intro d
    induction d with
    | zero => intro _; rw [show z - ((0 : Nat) : Int) = z by omega]; exact hm
    | succ d ih =>
      intro hd
      have := h.sib x (z - d) hx (ih (by omega)) (by omega)
      rwa [show z - (d : Int) - 1 = z - ((d + 1 : Nat) : Int) by omega] at this
  have := this (z - k).toNat (by omega)
  rwa [show z - (((z - (k : Int)).toNat : Nat) : Int) = k by omega] at this
theorem TreeN.kid_count {ns : List (List Int)} (h : TreeN ns) {x : List Int} (hx : x ≠ []) {z : Int} (hz : 0 ≤ z) (hm : x ++ [z] ∈ ns) : ∀ k : Nat, (k : Int) ≤ z → ns.countP (kidB x k) = k := by
  intro k
  induction k with
  | zero =>
    intro _
    refine List.countP_eq_zero.mpr fun y hy => ?_
    unfold kidB
    rw [decide_eq_true_eq]
    rintro ⟨e, n, l⟩
    obtain ⟨zs, rfl, _, hb⟩ := h.shape y hy
    cases zs with
    | nil => exact hx e.symm
    | cons u us =>
      have : (0 :: u :: us).getLastD 0 = (u :: us).getLast (by simp) := by simp [List.getLastD]
      rw [this] at l
      have := (hb _ (List.getLast_mem (by simp : (u :: us) ≠ []))).1
      omega
  | succ k ih =>
    intro hk
    have hmk := h.kids hx hz hm k (by omega)
    rw [countP_split (q := kidB x k) (r := fun y => decide (y = x ++ [(k : Int)])), ih (by omega), count_one h.nodup hmk]
    intro y
    by_cases hy : y = []
    · subst hy
      unfold kidB
      simp
    · have ey : y = y.dropLast ++ [y.getLast hy] := (List.dropLast_concat_getLast hy).symm
      rw [ey, kidB_snoc, kidB_snoc]
      have inj : (y.dropLast ++ [y.getLast hy] = x ++ [(k : Int)]) ↔ y.dropLast = x ∧ y.getLast hy = k := by
        constructor
        · intro e
          have := List.append_inj' e rfl
          exact ⟨this.1, by simpa using this.2⟩
        · rintro ⟨e1, e2⟩; rw [e1, e2]
      simp only [decide_eq_true_eq, inj]
      by_cases c : y.dropLast = x
      · simp only [c, true_and]
        by_cases d : y.getLast hy = k
        · rw [if_pos (by omega), if_neg (by omega), if_pos d]
        · by_cases f : y.getLast hy < (k : Int)
          · rw [if_pos (by omega), if_pos f, if_neg d]
          · rw [if_neg (by omega), if_neg f, if_neg d]
      · simp [c]
theorem TreeN.idx {D G : Int} {ns : List (List Int)} (h : TreeN ns) (hG : 0 < G) {i : Nat} {x : List Int} {z : Int} (i1 : 1 ≤ i) (hi : i < ns.length) (e : ns[i]? = some (x ++ [z])) (hx : x ≠ []) (hxm : x ∈ ns) (hz : 0 ≤ z) :
    (idxOf (planL D G ns) ((posOf x ns : Int), (i : Int), timeN D G x + z * G) : Int) = z := by
  have hm : x ++ [z] ∈ ns := List.mem_iff_getElem?.mpr ⟨i, e⟩
  have k := h.kid_count hx hz hm z.toNat (by omega)
  rw [show ((z.toNat : Nat) : Int) = z by omega] at k
  have : idxOf (planL D G ns) ((posOf x ns : Int), (i : Int), timeN D G x + z * G) = ns.countP (kidB x z) := by
    have e0 : ns = [0] :: (List.range (ns.length - 1)).map fun j => nAt ns (j + 1) := by
      refine List.ext_getElem? fun j => ?_
      cases j with
      | zero => rw [h.zero]; rfl
      | succ j =>
        rw [List.getElem?_cons_succ]
        by_cases c : j + 1 < ns.length
        · rw [List.getElem?_map, List.getElem?_range (by omega), List.getElem?_eq_getElem c]
          show _ = some (nAt ns (j + 1))
          rw [nAt_of (List.getElem?_eq_getElem c)]
        · rw [List.getElem?_eq_none (by omega), List.getElem?_eq_none (by rw [List.length_map, List.length_range]; omega)]
    have e1 : ns.countP (kidB x z) = ((List.range (ns.length - 1)).map fun j => nAt ns (j + 1)).countP (kidB x z) := by
      conv => lhs; rw [e0]
      rw [List.countP_cons, if_neg]
      · rfl
      · unfold kidB
        rw [decide_eq_true_eq]
        rintro ⟨q, _⟩
        exact hx q.symm
    rw [e1]
    unfold idxOf planL
    rw [List.countP_map, List.countP_map]
    refine List.countP_congr fun j hj => ?_
    have hj := List.mem_range.mp hj
    obtain ⟨y, u, ej, hy, hym, hu, _, f⟩ := h.rowAt (D := D) (G := G) (i := j + 1) (by omega) (by omega)
    show decide ((rowT D G ns (j + 1)).1 = _ ∧ (rowT D G ns (j + 1)).2.2 < _) = true ↔ kidB x z (nAt ns (j + 1)) = true
    rw [f, nAt_of ej, kidB_snoc, decide_eq_true_eq, decide_eq_true_eq]
    dsimp only
    constructor
    · rintro ⟨p1, p2⟩
      obtain rfl := h.pos_inj hym hxm (by omega)
      refine ⟨rfl, ?_⟩
      by_cases c : u < z
      · exact c
      · have : z * G ≤ u * G := Int.mul_le_mul_of_nonneg_right (by omega) (by omega)
        omega
    · rintro ⟨rfl, p2⟩
      refine ⟨rfl, ?_⟩
      have : u * G < z * G := Int.mul_lt_mul_of_pos_right p2 hG
      omega
  rw [this, k]
  omega
theorem TreeN.planN {D G : Int} {ns : List (List Int)} (h : TreeN ns) (hG : 0 < G) : NamesOk D G ns.length (planL D G ns) (fun i => nAt ns i.toNat) where
  zero := nAt_of h.zero
  row := fun l hl => by
    obtain ⟨i, x, z, i1, hi, e, a, b, c, d, rfl⟩ := h.mem_plan hl
    have p := posOf_get b
    dsimp only
    rw [Int.toNat_natCast, Int.toNat_natCast, nAt_of e, nAt_of p.1, h.idx hG i1 hi e a b c]
  shape := fun i h0 h1 => by
    have hi : i.toNat < ns.length := by omega
    have e := List.getElem?_eq_getElem hi
    obtain ⟨zs, e1, e2, e3⟩ := h.shape _ (List.getElem_mem hi)
    exact ⟨zs, by rw [nAt_of e]; exact e1, e2, e3⟩
  early := fun l hl => by
    obtain ⟨i, x, z, i1, hi, e, a, b, c, d, rfl⟩ := h.mem_plan hl
    dsimp only
    rw [Int.toNat_natCast, nAt_of e, timeN_snoc]
    omega

/-! ### the names of a right plan are a tree -/
def namesL (n : Int) (nm : Int → List Int) : List (List Int) := (List.range n.toNat).map fun h : Nat => nm h
theorem namesL_len {n : Int} {nm : Int → List Int} : (namesL n nm).length = n.toNat := by unfold namesL; rw [List.length_map, List.length_range]
theorem namesL_get {n : Int} {nm : Int → List Int} {i : Nat} (h : (i : Int) < n) : (namesL n nm)[i]? = some (nm i) := by
  unfold namesL
  rw [List.getElem?_map, List.getElem?_range (by omega)]
  rfl
theorem namesL_mem {n : Int} {nm : Int → List Int} {x : List Int} (h : x ∈ namesL n nm) : ∃ i : Nat, (i : Int) < n ∧ x = nm i := by
  obtain ⟨i, hi, rfl⟩ := List.mem_map.mp h
  exact ⟨i, by have := List.mem_range.mp hi; omega, rfl⟩
theorem namesL_in {n : Int} {nm : Int → List Int} {i : Int} (h0 : 0 ≤ i) (h1 : i < n) : nm i ∈ namesL n nm := by
  refine List.mem_map.mpr ⟨i.toNat, List.mem_range.mpr (by omega), ?_⟩
  rw [Int.toNat_of_nonneg h0]
theorem sorted_of (rs : List L3) : ∃ ss : List L3, ss.Perm rs ∧ ss.Pairwise fun l m => l.2.2 ≤ m.2.2 := by
  refine ⟨rs.mergeSort fun x y => decide (x.2.2 ≤ y.2.2), List.mergeSort_perm _ _, ?_⟩
  have srt : (rs.mergeSort fun x y => decide (x.2.2 ≤ y.2.2)).Pairwise fun x y => decide (x.2.2 ≤ y.2.2) = true := List.pairwise_mergeSort (le := fun x y : L3 => decide (x.2.2 ≤ y.2.2)) (fun a b c h1 h2 => by
    have := of_decide_eq_true h1; have := of_decide_eq_true h2
    exact decide_eq_true (by omega)) (fun a b => by
    by_cases c : a.2.2 ≤ b.2.2
    · rw [decide_eq_true c]; rfl
    · rw [decide_eq_true (show b.2.2 ≤ a.2.2 by omega), Bool.or_true]) rs
  exact srt.imp fun h => of_decide_eq_true h
section
variable {D G n : Int} {rs : List L3} {nm : Int → List Int}
theorem NamesOk.inj (hQ : RightQ D G n rs) (hN : NamesOk D G n rs nm) (hG : 0 < G) : ∀ (m : Nat) (i j : Int), (nm i).length ≤ m → 0 ≤ i → i < n → 0 ≤ j → j < n → nm i = nm j → i = j := by
  intro m
  induction m with
  | zero =>
    intro i j h i0 i1 _ _ _
    obtain ⟨zs, e, _⟩ := hN.shape i i0 i1
    rw [e] at h
    exact absurd h (by simp)
  | succ m ih =>
    intro i j h i0 i1 j0 j1 e
    have two : ∀ k : Int, 0 ≤ k → k < n → k ≠ 0 → ∃ l, l ∈ rs ∧ l.2.1 = k := fun k k0 k1 kn => by
      obtain ⟨l, hl, e⟩ := List.mem_map.mp (hQ.all k (by omega) k1)
      exact ⟨l, hl, e⟩
    have ne0 : ∀ k : Int, 0 ≤ k → k < n → k ≠ 0 → nm k ≠ [0] := fun k k0 k1 kn q => by
      obtain ⟨l, hl, rfl⟩ := two k k0 k1 kn
      rw [hN.row l hl] at q
      have hs := (hQ.hands l hl).1
      obtain ⟨zs, e', _⟩ := hN.shape l.1 hs.1 hs.2
      rw [e'] at q
      have := congrArg List.length q
      simp at this
    by_cases ci : i = 0
    · by_cases cj : j = 0
      · rw [ci, cj]
      · rw [ci, hN.zero] at e
        exact absurd e.symm (ne0 j j0 j1 cj)
    · by_cases cj : j = 0
      · rw [cj, hN.zero] at e
        exact absurd e (ne0 i i0 i1 ci)
      · obtain ⟨l, hl, el⟩ := two i i0 i1 ci
        obtain ⟨k, hk, ek⟩ := two j j0 j1 cj
        rw [← el, ← ek, hN.row l hl, hN.row k hk] at e
        have ap := List.append_inj' e rfl
        have hsl := (hQ.hands l hl).1
        have hsk := (hQ.hands k hk).1
        have e1 : l.1 = k.1 := ih l.1 k.1 (by
          rw [← el, hN.row l hl, List.length_append, List.length_singleton] at h
          omega) hsl.1 hsl.2 hsk.1 hsk.2 ap.1
        have e2 : idxOf rs l = idxOf rs k := by
          have := ap.2
          simp only [List.cons.injEq, and_true] at this
          omega
        by_cases c : i = j
        · exact c
        · rcases hQ.gaps l k hl hk e1 (by rw [el, ek]; exact c) with g | g
          · have := idx_lt (rs := rs) hl e1 (by omega); omega
          · have := idx_lt (rs := rs) hk e1.symm (by omega); omega
theorem NamesOk.tree (hQ : RightQ D G n rs) (hN : NamesOk D G n rs nm) (hD : 0 < D) (hG : 0 < G) (hn : 1 ≤ n) : TreeN (namesL n nm) where
  zero := by rw [namesL_get (by omega)]; exact congrArg some hN.zero
  nodup := by
    unfold List.Nodup
    rw [List.pairwise_iff_getElem]
    intro i j hi hj hij q
    rw [namesL_len] at hi hj
    have ei := namesL_get (nm := nm) (n := n) (i := i) (by omega)
    have ej := namesL_get (nm := nm) (n := n) (i := j) (by omega)
    rw [List.getElem?_eq_getElem (by rw [namesL_len]; omega)] at ei ej
    have := hN.inj hQ hG (nm i).length i j (Nat.le_refl _) (by omega) (by omega) (by omega) (by omega) (by rw [← Option.some.inj ei, ← Option.some.inj ej]; exact q)
    omega
  shape := fun x hx => by
    obtain ⟨i, hi, rfl⟩ := namesL_mem hx
    obtain ⟨zs, e1, e2, e3⟩ := hN.shape i (by omega) hi
    rw [namesL_len, Int.toNat_of_nonneg (by omega)]
    exact ⟨zs, e1, e2, e3⟩
  sender := fun x z hx hm => by
    obtain ⟨i, hi, e⟩ := namesL_mem hm
    by_cases c : (i : Int) = 0
    · rw [c, hN.zero] at e
      cases x with
      | nil => exact absurd rfl hx
      | cons u x => have := congrArg List.length e; simp at this
    · obtain ⟨l, hl, el⟩ := List.mem_map.mp (hQ.all i (by omega) hi)
      have el : l.2.1 = (i : Int) := el
      rw [← el, hN.row l hl] at e
      have hs := (hQ.hands l hl).1
      rw [(List.append_inj' e rfl).1]
      exact namesL_in hs.1 hs.2
  sib := fun x z hx hm hz => by
    obtain ⟨i, hi, e⟩ := namesL_mem hm
    by_cases c : (i : Int) = 0
    · rw [c, hN.zero] at e
      cases x with
      | nil => exact absurd rfl hx
      | cons u x => have := congrArg List.length e; simp at this
    · obtain ⟨l, hl, el⟩ := List.mem_map.mp (hQ.all i (by omega) hi)
      have el : l.2.1 = (i : Int) := el
      rw [← el, hN.row l hl] at e
      have ap := List.append_inj' e rfl
      have ez : z = (idxOf rs l : Int) := by have := ap.2; simpa using this
      obtain ⟨ss, ps, srt⟩ := sorted_of rs
      obtain ⟨a, ha⟩ := List.mem_iff_getElem?.mp (ps.mem_iff.mpr hl)
      have o1 := hQ.order hD hG ps srt ha
      obtain ⟨c', hc'⟩ : ∃ c' : Nat, idxOf rs l = c' + 1 := ⟨idxOf rs l - 1, by omega⟩
      rw [hc'] at o1
      obtain ⟨j, m, ej, em, ec⟩ := count_last o1.2.1
      have em := of_decide_eq_true em
      have hja : j < a := by
        have := (List.getElem?_eq_some_iff.mp ej).1
        rw [List.length_take] at this
        omega
      rw [List.getElem?_take, if_pos hja] at ej
      have o2 := hQ.order hD hG ps srt ej
      rw [List.take_take, Nat.min_eq_left (by omega)] at ec
      have e2 : idxOf rs m = c' := by rw [← o2.2.1, ← ec, em]
      have hmr : m ∈ rs := ps.mem_iff.mp (List.mem_iff_getElem?.mpr ⟨j, ej⟩)
      have hh := (hQ.hands m hmr).2.1
      have : x ++ [z - 1] = nm m.2.1 := by rw [hN.row m hmr, e2, em, ap.1, ez, hc']; congr 2; omega
      rw [this]
      exact namesL_in (by omega) hh.2
theorem early_perm (hQ : RightQ D G n rs) (hN : NamesOk D G n rs nm) (hD : 0 < D) (hG : 0 < G) (hn : 1 ≤ n) : (eRows D G nm rs).Perm (planL D G (namesL n nm)) := by
  have hT := hN.tree hQ hD hG hn
  have nd : ∀ {us : List L3}, (recvs us).Nodup → us.Nodup := fun {us} h => by
    unfold recvs List.Nodup at h
    rw [List.pairwise_map] at h
    exact h.imp fun h e => h (by rw [e])
  have q1 := (early_right hQ hN hD hG).nodup
  have q2 := (hT.planQ hD hG).nodup
  have row : ∀ l, l ∈ rs → eRow D G nm l = rowT D G (namesL n nm) l.2.1.toNat ∧ 1 ≤ l.2.1.toNat ∧ l.2.1.toNat < n.toNat := fun l hl => by
    have hh := hQ.hands l hl
    refine ⟨?_, by omega, by omega⟩
    have e : (namesL n nm)[l.2.1.toNat]? = some (nm l.2.1) := by rw [namesL_get (by omega)]; rw [Int.toNat_of_nonneg (by omega)]
    have e1 : (namesL n nm)[l.1.toNat]? = some (nm l.1) := by rw [namesL_get (by omega)]; rw [Int.toNat_of_nonneg (by omega)]
    unfold rowT eRow
    rw [nAt_of e, hN.row l hl, List.dropLast_concat, posOf_at hT.nodup e1, Int.toNat_of_nonneg (by omega), Int.toNat_of_nonneg (by omega)]
  rw [List.perm_ext_iff_of_nodup (nd q1) (nd q2)]
  intro l
  constructor
  · intro h
    obtain ⟨r, hr, rfl⟩ := List.mem_map.mp h
    obtain ⟨e, a, b⟩ := row r hr
    rw [e]
    exact List.mem_map.mpr ⟨r.2.1.toNat - 1, List.mem_range.mpr (by rw [namesL_len]; omega), by rw [show r.2.1.toNat - 1 + 1 = r.2.1.toNat by omega]⟩
  · intro h
    obtain ⟨i, hi, rfl⟩ := List.mem_map.mp h
    have hi := List.mem_range.mp hi
    rw [namesL_len] at hi
    obtain ⟨r, hr, er⟩ := List.mem_map.mp (hQ.all ((i + 1 : Nat) : Int) (by omega) (by omega))
    have er : r.2.1 = ((i + 1 : Nat) : Int) := er
    obtain ⟨e, _, _⟩ := row r hr
    rw [er, Int.toNat_natCast] at e
    rw [← e]
    exact List.mem_map.mpr ⟨r, hr, rfl⟩
end

theorem lay_ints : ∀ xs : List Int, PyData.canLayAll0 (xs.map PyData.int) = true
  | [] => rfl
  | x :: xs => by
    show (true && PyData.canLayAll0 (xs.map PyData.int)) = true
    rw [lay_ints xs]; rfl
theorem dep_ints : ∀ xs : List Int, PyData.depthAll (xs.map PyData.int) ≤ 1
  | [] => by decide
  | x :: xs => by
    have := dep_ints xs
    show max (PyData.depth (.int x)) (PyData.depthAll (xs.map PyData.int)) ≤ 1
    have h : PyData.depth (.int x) ≤ 1 := Nat.zero_le 1
    exact Nat.max_le.mpr ⟨h, this⟩
theorem sh_tints (xs : List Int) : SeqAt.shaped (.tuple (xs.map PyData.int)) = true := by
  have h1 := lay_ints xs
  have h2 := dep_ints xs
  have h3 : (PyData.tuple (xs.map PyData.int)).depth ≤ 64 := by
    show _ + _ ≤ 64
    omega
  show (PyData.canLayAll0 (xs.map PyData.int) && decide ((PyData.tuple (xs.map PyData.int)).depth ≤ 64)) = true
  rw [h1, decide_eq_true h3]; rfl
theorem r_neT0 {K : PySem.W.Frag} {H : Hp} {Q : VK} {p q : Addr} {xs : List Int} (h1 : H p = some (.tup (xs.map V.int))) (h2 : H q = some (.tup (xs.map V.int))) (k : Q (.bl false) H) : rNeD K (.ref p) (.ref q) H Q := by
  refine ⟨_, _, .tup (SqT.of h1) (dp_ints xs), .tup (SqT.of h2) (dp_ints xs), sh_tints xs, sh_tints xs, ?_⟩
  rw [show PyData.eqv (.tuple (xs.map PyData.int)) (.tuple (xs.map PyData.int)) = true from (eq_ints (xs := xs) (ys := xs)).trans (by simp)]
  exact k

/-! ### sets of tuples of ints: set(), add, in -/
section
open PySem.Spec PyProof.Rows
variable {P : Program} {w : World} {A : Around} {E : Value → Shared → Prop} {s : Shared} {a : Addr} {L : List (Addr × List Int)} {es : Array (Int × Value)} {ep : Nat} {t : SetTable}
theorem tfind_from (R : SetTR P w s.heap a L es ep t) {x : Addr} {k : List Int} (hx : L2.IsT P w s.heap k x) (hu : A.units < cLine) {K : Nat} (hKf : K < 10 * SetTable.turns t.mask)
    (hK : ¬way t.mask (thash P w k) K ∈ t.place.toList) (hKb : ∀ c : Nat, c < K → way t.mask (thash P w k) c ∈ t.place.toList) {Q : SetFound → Shared → Prop}
    (hin : k ∈ L.map (fun x => x.snd) → ∀ i, Q (SetFound.there (some i)) s) (hout : ¬k ∈ L.map (fun x => x.snd) → ∀ j b, Q (SetFound.free j b) s) :
    ∀ (f c : Nat) (stand : Option SetTable.Probe), stand.getD (t.probeStart (thash P w k)) = nth t.mask (runAt t.mask (SetTable.bits (thash P w k) % (t.mask + 1)) (SetTable.bits (thash P w k))) c → c ≤ K → K - c < f →
      (∀ (i : Nat) (p : Addr × List Int), L[i]? = some p → p.snd = k → ∃ c', c ≤ c' ∧ c' < K ∧ t.place.toList[i]? = some (way t.mask (thash P w k) c')) →
      wpAny (model P w) A (setSearchFrom a (.ref x) (thash P w k) false f stand) Q E s
  | 0, c, stand, _, _, hf, _ => absurd hf (Nat.not_lt_zero _)
  | f + 1, c, stand, hst, hc, hf, hre => by
    obtain ⟨o, ho, hex, hd⟩ := R.ob
    rw [setSearchFrom_succ]
    refine wpAny_bind (wpAny_setState_of ho hd R.fits ?_)
    refine wp_if_neg R.gw (wpAny_bind (wpAny_pure ?_))
    have hnd : (nth t.mask (runAt t.mask (SetTable.bits (thash P w k) % (t.mask + 1)) (SetTable.bits (thash P w k))) c).dummy = none := by
      have key : ∀ (n : Nat) (p : SetTable.Probe), p.dummy = none → (nth t.mask p n).dummy = none := by
        intro n
        induction n with
        | zero => intro p h; exact h
        | succ n ih =>
          intro p h
          refine ih (adv t.mask p) ?_
          unfold adv
          split <;> exact h
      exact key c _ rfl
    have sh : ∀ q, nth t.mask (nth t.mask (runAt t.mask (SetTable.bits (thash P w k) % (t.mask + 1)) (SetTable.bits (thash P w k))) c) q = nth t.mask (runAt t.mask (SetTable.bits (thash P w k) % (t.mask + 1)) (SetTable.bits (thash P w k))) (c + q) := fun q => (nth_add t.mask c _ q).symm
    have e1 : ∀ q, (nth t.mask (nth t.mask (runAt t.mask (SetTable.bits (thash P w k) % (t.mask + 1)) (SetTable.bits (thash P w k))) c) q).j = way t.mask (thash P w k) (c + q) := fun q => congrArg SetTable.Probe.j (sh q)
    have hashAt : ∀ (i : Nat) (p : Addr × List Int), L[i]? = some p → (Option.map (fun x => x.fst) es[i]?).getD 0 = thash P w p.snd := fun i p hp => by rw [R.entry hp]; rfl
    have spec := go_spec t R.tab.ris R.tab.dm (fun i => (Option.map (fun x => x.fst) es[i]?).getD 0) (thash P w k) (10 * SetTable.turns t.mask) (K - c) _ hnd (by omega)
      (fun q hq => by rw [e1]; exact hKb (c + q) (by omega)) (by rw [e1, show c + (K - c) = K by omega]; exact hK)
    rcases spec with ⟨q, i, hq, hi, hh, hno, hpr⟩ | ⟨hno, hpr⟩
    · have hpr' : t.probe (fun i => (Option.map (fun x => x.fst) es[i]?).getD 0) (thash P w k) (stand.getD (t.probeStart (thash P w k))) = some (SetTable.Met.candidate (way t.mask (thash P w k) (c + q)) i (nth t.mask (runAt t.mask (SetTable.bits (thash P w k) % (t.mask + 1)) (SetTable.bits (thash P w k))) (c + (q + 1)))) := by
        rw [hst, ← e1 q, ← sh (q + 1)]
        exact hpr
      rw [hpr']
      have hil : i < L.length := by
        have h1 := (List.getElem?_eq_some_iff.mp hi).1
        have h2 := R.tab.sz
        rw [Array.length_toList] at h1
        rw [List.length_map] at h2
        omega
      have hp := List.getElem?_eq_getElem hil
      have hmem := List.mem_of_getElem? hp
      have hpt := R.tup L[i] hmem
      have rest : wpAny (model P w) A (searchRest a (.ref x) (thash P w k) false f es t (way t.mask (thash P w k) (c + q)) i (nth t.mask (runAt t.mask (SetTable.bits (thash P w k) % (t.mask + 1)) (SetTable.bits (thash P w k))) (c + (q + 1)))) Q E s := by
        unfold searchRest
        rw [R.entry hp]
        refine wpAny_bind (wpAny_holding (wpAny_eqBool_tuple hu hpt hx (wpAny_bind (wpAny_setState_of ho hd R.fits ?_))))
        have hsl : t.slot (way t.mask (thash P w k) (c + q)) = SetTable.Slot.live i := slot_live R.tab.ris (by rw [← e1 q]; exact hi)
        show wpAny (model P w) A (if (false && decide (L[i].snd = k)) = true then _ else _) Q E s
        refine wp_if_neg (by simp) ?_
        rw [sameMem]
        show wpAny (model P w) A (match (if true = true then t.slot (way t.mask (thash P w k) (c + q)) else SetTable.Slot.empty) with | SetTable.Slot.live i' => _ | x => _) Q E s
        rw [if_pos rfl, hsl]
        show wpAny (model P w) A (match es[i]? with | some (fst, y') => _ | none => _) Q E s
        rw [R.entry hp]
        have hs : isSame (Value.ref L[i].fst) (Value.ref L[i].fst) = pure true := by
          show (if (L[i].fst == L[i].fst) = true then pure true else _) = pure true
          rw [if_pos (beq_self_eq_true _)]
        show wpAny (model P w) A (isSame (Value.ref L[i].fst) (Value.ref L[i].fst) >>= _) Q E s
        rw [hs]
        refine wpAny_bind (wpAny_pure (wpAny_bind (wpAny_pure ?_)))
        show wpAny (model P w) A (if decide (L[i].snd = k) = true then pure (SetFound.there (some i)) else setSearchFrom a (.ref x) (thash P w k) false f (some (nth t.mask (runAt t.mask (SetTable.bits (thash P w k) % (t.mask + 1)) (SetTable.bits (thash P w k))) (c + (q + 1))))) Q E s
        by_cases hkk : L[i].snd = k
        · rw [if_pos (decide_eq_true hkk)]
          exact wpAny_pure (hin (List.mem_map.mpr ⟨_, hmem, hkk⟩) i)
        · rw [if_neg (by rw [decide_eq_false hkk]; exact Bool.false_ne_true)]
          refine tfind_from R hx hu hKf hK hKb hin hout f (c + (q + 1)) _ rfl (by omega) (by omega) fun i0 p0 h00 hk0 => ?_
          obtain ⟨c', a1, a2, a3⟩ := hre i0 p0 h00 hk0
          refine ⟨c', ?_, a2, a3⟩
          rcases Nat.lt_trichotomy (c' - c) q with z | z | z
          · exact absurd ((hashAt i0 p0 h00).trans (congrArg (thash P w) hk0)) (hno (c' - c) i0 z (by rw [e1, show c + (c' - c) = c' by omega]; exact a3))
          · have hj : t.place.toList[i]? = some (way t.mask (thash P w k) (c + q)) := by rw [← e1 q]; exact hi
            rw [← show c' = c + q by omega] at hj
            have l1 := slot_live R.tab.ris hj
            have l2 := slot_live R.tab.ris a3
            rw [l1] at l2
            have : i = i0 := SetTable.Slot.live.inj l2
            subst this
            rw [hp] at h00
            exact absurd (Option.some.inj h00 ▸ hk0) hkk
          · omega
      have tail : ∀ b : Bool, wpAny (model P w) A (if (!b) = true then (searchCouldBeSeen (Value.ref x) (List.map (fun x => x.snd) (Array.filter (fun x => x.fst == thash P w k) es).toList) >>= fun seen => if seen = true then (unsupported "set:the-search-would-show-the-table" >>= fun (_ : Unit) => searchRest a (.ref x) (thash P w k) false f es t (way t.mask (thash P w k) (c + q)) i (nth t.mask (runAt t.mask (SetTable.bits (thash P w k) % (t.mask + 1)) (SetTable.bits (thash P w k))) (c + (q + 1)))) else pure () >>= fun _ => searchRest a (.ref x) (thash P w k) false f es t (way t.mask (thash P w k) (c + q)) i (nth t.mask (runAt t.mask (SetTable.bits (thash P w k) % (t.mask + 1)) (SetTable.bits (thash P w k))) (c + (q + 1)))) else pure () >>= fun _ => searchRest a (.ref x) (thash P w k) false f es t (way t.mask (thash P w k) (c + q)) i (nth t.mask (runAt t.mask (SetTable.bits (thash P w k) % (t.mask + 1)) (SetTable.bits (thash P w k))) (c + (q + 1)))) Q E s := by
        intro b
        cases b with
        | true => exact wp_if_neg (by simp) (wpAny_bind (wpAny_pure rest))
        | false =>
          refine wp_if_pos rfl ?_
          refine wpAny_bind (seen_tup hx (fun y hy => ?_) (wp_if_neg (by simp) (wpAny_bind (wpAny_pure rest))))
          obtain ⟨e, he, rfl⟩ := List.mem_map.mp hy
          have he : e ∈ es.toList := by
            rw [Array.toList_filter] at he
            exact (List.mem_filter.mp he).1
          rw [R.rows] at he
          unfold rowsOf at he
          obtain ⟨p, hp, rfl⟩ := List.mem_map.mp he
          exact ⟨p.2, p.1, rfl, R.tup p hp⟩
      exact tail t.led
    · have hpr' : t.probe (fun i => (Option.map (fun x => x.fst) es[i]?).getD 0) (thash P w k) (stand.getD (t.probeStart (thash P w k))) = some (SetTable.Met.empty (way t.mask (thash P w k) K) none) := by
        have e2 := e1 (K - c)
        rw [show c + (K - c) = K by omega] at e2
        rw [hst, ← e2]
        exact hpr
      rw [hpr']
      refine wpAny_pure (hout (fun hm => ?_) _ _)
      obtain ⟨p0, h0, hk0⟩ := List.mem_map.mp hm
      obtain ⟨i0, hi0, e0⟩ := List.getElem_of_mem h0
      have h00 : L[i0]? = some p0 := by rw [List.getElem?_eq_getElem hi0, e0]
      obtain ⟨c', a1, a2, a3⟩ := hre i0 p0 h00 hk0
      exact hno (c' - c) i0 (by omega) (by rw [e1, show c + (c' - c) = c' by omega]; exact a3) ((hashAt i0 p0 h00).trans (congrArg (thash P w) hk0))
theorem tfind_at (R : SetTR P w s.heap a L es ep t) {x : Addr} {k : List Int} (hx : L2.IsT P w s.heap k x) (hu : A.units < cLine) {Q : Option Nat → Shared → Prop} (h : ∀ r : Option Nat, r.isSome = decide (k ∈ L.map (fun x => x.snd)) → Q r s) :
    wpAny (model P w) A (setFind a (.ref x) (thash P w k)) Q E s := by
  obtain ⟨K, hKf, hK, hKb⟩ := R.tab.first (by rw [List.length_map]; have := R.room; omega) (thash P w k)
  obtain ⟨o, ho, hex, hd⟩ := R.ob
  show wpAny (model P w) A (setState a >>= _) Q E s
  refine wpAny_bind (wpAny_setState_of ho hd R.fits ?_)
  show wpAny (model P w) A (if byScan (Value.ref x) es = true then _ else _) Q E s
  refine wp_if_neg (by unfold byScan; exact Bool.false_ne_true) ?_
  have hbig : K < 100000 := by
    have hm := R.tab.mok
    unfold MaskOk at hm
    unfold SetTable.turns at hKf
    omega
  have go := tfind_from R hx hu hKf hK hKb (E := E) (Q := fun r s' => wpAny (model P w) A (match r with | SetFound.there i => pure i | SetFound.free slot wasDummy => pure none) Q E s')
    (fun hm i => wpAny_pure (h _ (by rw [decide_eq_true hm]; rfl))) (fun hm j b => wpAny_pure (h _ (by rw [decide_eq_false hm]; rfl))) 100000 0 none rfl (Nat.zero_le _) (by omega) (fun i p hp hk => ?_)
  · exact wpAny_bind go
  · have hi : (L.map fun p => thash P w p.snd)[i]? = some (thash P w k) := by rw [List.getElem?_map, hp]; show some (thash P w p.snd) = _; rw [hk]
    have hil : i < t.place.toList.length := by
      have h1 := (List.getElem?_eq_some_iff.mp hp).1
      have h2 := R.tab.sz
      rw [List.length_map] at h2
      rw [Array.length_toList]
      omega
    have hj := List.getElem?_eq_getElem hil
    obtain ⟨c, hc, e⟩ := R.tab.before hK hi hj
    exact ⟨c, Nat.zero_le _, hc, by rw [hj, e]⟩
end
section
open PySem.Spec PyProof.Rows
variable {P : Program} {w : World} {A : Around} {E : Value → Shared → Prop} {s : Shared} {a : Addr} {L : List (Addr × List Int)} {es : Array (Int × Value)} {ep : Nat} {t : SetTable}
theorem SetTR.tyIs (R : SetTR P w s.heap a L es ep t) : s.TypeIs (.ref a) "set" := by
  obtain ⟨o, ho, hex, hd⟩ := R.ob
  exact ⟨o, ho, hex.1⟩
theorem call_addT (R : SetTR P w s.heap a L es ep t) {x : Addr} {k : List Int} (hx : L2.IsT P w s.heap k x) (hu : A.in1.units < cLine) (hl : L.length + 1 < 64) {Q : Value → Shared → Prop}
    (h : ∀ (h' : Heap) (L' : List (Addr × List Int)) (es' : Array (Int × Value)) (ep' : Nat) (t' : SetTable) (tk : Nat), Heap.SameBut a s.heap h' → SetTR P w h' a L' es' ep' t' → (k ∈ L.map (fun x => x.snd) → L' = L) → (¬k ∈ L.map (fun x => x.snd) → L'.Perm ((x, k) :: L)) →
      Q .none { heap := h', gens := s.gens, drawn := s.drawn, toks := tk, os := s.os }) :
    wpAny (model P w) A (call (.builtin "set.add") [.ref a, .ref x]) Q E s := by
  refine wpAny_call_entry F.slot_set_add (SetTR.tyIs R) F.entry_set_add ?_ (F.args_set_add_2 (Value.ref a) (.ref x))
  show wpAny (model P w) A.in1 (do
    let x ← (do let z ← Builtin.Frozenset.addrOf (Value.ref a); pure (z, Value.ref x))
    let _ ← setAdd x.1 x.2
    ret Value.none) _ _ s
  refine wpAny_bind (wpAny_bind (wpAny_pure (wpAny_pure ?_)))
  refine wpAny_bind (wpAny_holding (wpAny_bind ((tupleKind (intKind P w)).pyHash (k := k) hu hx ?_)))
  refine add_at (s := { heap := s.heap, gens := s.gens, drawn := s.drawn, toks := s.toks + (k.length + 1), os := s.os }) R hx hu hl fun b h' L' es' ep' t' sb R' c1 c2 => ?_
  exact wpAny_pure ⟨.none, rfl, h h' L' es' ep' t' _ sb R' c1 c2⟩
theorem in_tups (neg : Bool) (R : SetTR P w s.heap a L es ep t) {x : Addr} {k : List Int} (hx : L2.IsT P w s.heap k x) (hu : A.in1.units < cLine) {Q : Value → Shared → Prop}
    (h : ∀ tk : Nat, Q (.bool (if neg then !decide (k ∈ L.map (fun x => x.snd)) else decide (k ∈ L.map (fun x => x.snd)))) { heap := s.heap, gens := s.gens, drawn := s.drawn, toks := tk, os := s.os }) :
    wpAny (model P w) A (compareOp (if neg then .NotIn else .In) (.ref x) (.ref a)) Q E s := by
  have core : ∀ (Q' : Bool → Shared → Prop), (∀ tk : Nat, Q' (decide (k ∈ L.map (fun x => x.snd))) { heap := s.heap, gens := s.gens, drawn := s.drawn, toks := tk, os := s.os }) → ∀ (refuse : Sem Value),
      wpAny (model P w) A (callSpecialUnlessNone? (.ref a) "__contains__" [.ref x] refuse) (fun r s' => ∃ v b, r = some v ∧ v = .bool b ∧ Q' b s') E s := by
    intro Q' hq refuse
    refine wpAny_callSpecialUnlessNone?_slot (SetTR.tyIs R) F.slot_set_contains (wpAny_call_entry F.slot_set_contains (SetTR.tyIs R) entry_set_contains ?_ (F.args_set_contains_2 (Value.ref a) (.ref x)))
    show wpAny (model P w) A.in1 (do
      let x ← (do let z ← Builtin.Frozenset.addrOf (Value.ref a); pure (z, Value.ref x))
      let b ← Builtin.Frozenset.withSetAsKey "frozenset.__contains__" x.2 (setContains x.1)
      ret (Value.bool b)) _ _ s
    refine wpAny_bind (wpAny_bind (wpAny_pure (wpAny_pure ?_)))
    refine wpAny_bind (wpAny_tryCatch (wpAny_holding (wpAny_bind ((tupleKind (intKind P w)).pyHash (k := k) hu hx (wpAny_bind ?_)))))
    refine tfind_at (s := { heap := s.heap, gens := s.gens, drawn := s.drawn, toks := s.toks + (k.length + 1), os := s.os }) (A := A.in1) R hx hu fun r hr => wpAny_pure ?_
    rw [hr]
    exact wpAny_pure ⟨_, rfl, _, _, rfl, rfl, hq _⟩
  cases neg with
  | false =>
    refine wpAny_bind ?_
    refine wpAny_holding (wpAny_bind (wpAny_specialOf (SetTR.tyIs R) F.slot_set_contains.lookup ?_))
    refine wp_if_neg (by rw [beq_builtin_none]; exact Bool.false_ne_true) ?_
    refine wpAny_bind (wpAny_mono (core (fun b s' => Q (.bool b) s') h _) (fun r s' hr => ?_) (fun e s' z => z))
    obtain ⟨v, b, rfl, rfl, hq⟩ := hr
    exact wpAny_truthy_bool (wpAny_pure hq)
  | true =>
    refine wpAny_bind ?_
    refine wpAny_holding (wpAny_bind (wpAny_specialOf (SetTR.tyIs R) F.slot_set_contains.lookup ?_))
    refine wp_if_neg (by rw [beq_builtin_none]; exact Bool.false_ne_true) ?_
    refine wpAny_bind (wpAny_mono (core (fun b s' => Q (.bool (!b)) s') h _) (fun r s' hr => ?_) (fun e s' z => z))
    obtain ⟨v, b, rfl, rfl, hq⟩ := hr
    exact wpAny_truthy_bool (wpAny_pure hq)
end
/-- the tuples of a set: they stand in the heap -/
def TupsIn (K : PySem.W.Frag) (H : Hp) (L : List (Addr × List Int)) : Prop := ∀ p, p ∈ L → SqT K H p.1 (p.2.map V.int)
def rSetT0 (P : Program) (w : World) : List V → Hp → VK → Prop := fun xs H Q => xs = [] ∧ ∀ p, H p = none → Q (.ref p) (upd H p (SetTO P w p []))
def rAddT (K : PySem.W.Frag) (P : Program) (w : World) : V → List V → Hp → VK → Prop := fun x xs H Q => ∃ (a b : Addr) (k : List Int) (L : List (Addr × List Int)), x = .ref a ∧ xs = [.ref b] ∧ H a = some (SetTO P w a L) ∧ TupsIn K H L ∧ SqT K H b (k.map V.int) ∧ L.length + 1 < 64 ∧
  ∀ L' : List (Addr × List Int), (k ∈ L.map (fun x => x.snd) → L' = L) → (¬k ∈ L.map (fun x => x.snd) → L'.Perm ((b, k) :: L)) → Q .non (upd H a (SetTO P w a L'))
def rInT (K : PySem.W.Frag) (P : Program) (w : World) (neg : Bool) : R2 := fun x y H Q => ∃ (a b : Addr) (k : List Int) (L : List (Addr × List Int)), x = .ref b ∧ y = .ref a ∧ H a = some (SetTO P w a L) ∧ TupsIn K H L ∧ SqT K H b (k.map V.int) ∧
  Q (.bl (if neg then !decide (k ∈ L.map (fun x => x.snd)) else decide (k ∈ L.map (fun x => x.snd)))) H
section
open PySem.Spec PyProof.Rows
variable {X : Cx}
theorem setT_get {pins : List (Addr × Obj)} {σ : L2.St} {H : Hp} {s : Shared} {a : Addr} {L : List (Addr × List Int)} (I : Inv X pins σ H s) (ha : H a = some (SetTO X.prog X.w a L)) (hL : TupsIn X.K H L) :
    ∃ es ep t, SetTR X.prog X.w s.heap a L es ep t := by
  obtain ⟨es, ep, t, ob, rows, tab, nd, plain, led, room, few⟩ := (I.hok a _ ha).1.ex
  exact ⟨es, ep, t, ⟨ob, rows, tab, nd, fun p hp => I.isT (hL p hp), plain, led, room, few⟩⟩
theorem cr_setT0 : CallR X (.type "set") (rSetT0 X.prog X.w) := by
  intro pins s σ H xs us Q I r h
  obtain ⟨rfl, q⟩ := h
  cases r
  refine setR_new fun _ => ?_
  have R := setTR_fresh (P := X.prog) (w := X.w) (h := s.heap.push { cls := Value.type "set", data := Data.set #[] 0 (SetTable.fresh 0 0 !X.w.params.followText "set-order") }) (a := s.heap.objs.size) (Heap.get?_push_size _ rfl)
  exact ⟨.ref s.heap.objs.size, _, I.laid (fun b u e => Heap.get?_push_of_some _ e) (Nat.le_refl _) (setTO_new R.t0), rfl, q _ (I.hok.fresh (Nat.le_refl _))⟩
theorem mt_addT (hu : X.A.units + 64 < cLine) : MtR X "set.add" (rAddT X.K X.prog X.w) := by
  intro pins s σ H x xs v us Q I rx rxs h
  obtain ⟨a, b, k, L, rfl, rfl, ha, hL, hb, hl, q⟩ := h
  cases rx
  rw [Vals.ref1 rxs]
  obtain ⟨es, ep, t, R⟩ := setT_get I ha hL
  refine call_addT R (I.isT hb) (by show X.A.units + 1 < cLine; omega) hl fun h' L' es' ep' t' tk sb R' c1 c2 => ?_
  have he : ∃ u, h'.get? a = some u := let ⟨o, ho, _⟩ := R'.ob; ⟨o, ho⟩
  exact ⟨.non, _, I.write (e := a) (t' := _) (by rw [ha]; trivial) (.inl rfl) (fun b u hb hu => (sb.2 b hb).trans hu) he (setTO_new R'.t0), rfl, q _ c1 c2⟩
theorem or_inT (hu : X.A.units + 64 < cLine) : OpR X (compareOp .In) (rInT X.K X.prog X.w false) := by
  intro pins s σ H x y v u Q I rx ry h
  obtain ⟨a, b, k, L, rfl, rfl, ha, hL, hb, q⟩ := h
  cases rx
  cases ry
  obtain ⟨es, ep, t, R⟩ := setT_get I ha hL
  exact in_tups false R (I.isT hb) (by show X.A.units + 1 < cLine; omega) fun tk => ⟨.bl _, H, I.tok tk, rfl, q⟩
theorem or_ninT (hu : X.A.units + 64 < cLine) : OpR X (compareOp .NotIn) (rInT X.K X.prog X.w true) := by
  intro pins s σ H x y v u Q I rx ry h
  obtain ⟨a, b, k, L, rfl, rfl, ha, hL, hb, q⟩ := h
  cases rx
  cases ry
  obtain ⟨es, ep, t, R⟩ := setT_get I ha hL
  exact in_tups true R (I.isT hb) (by show X.A.units + 1 < cLine; omega) fun tk => ⟨.bl _, H, I.tok tk, rfl, q⟩
end
def tAddT (K : PySem.W.Frag) (P : Program) (w : World) (to : TE) (t : TA) : TE := fun σ H Q => to σ H fun x H1 => (∃ a L, x = .ref a ∧ H1 a = some (SetTO P w a L)) ∧ t σ H1 fun xs H2 => rAddT K P w x xs H2 Q
section
open PySem.Spec PyProof.Rows
variable {X : Cx} {o e : Expr} {es : List Expr} {to : TE} {t : TA} {apos cpos : Pos}
theorem pe_addT (hu : X.A.units + 64 < cLine) (ho : PE X o to) (ha : PA X (e :: es) t)
    (hbase : attributeBase o "add" X.env (eval o X.env) = eval o X.env := by rfl)
    (hfew : ((backTo cpos (starEach (e :: es) X.env)).all (fun x => !x.1) && (backToKw cpos (keywordEach [] X.env)).all (fun x => x.1.isSome) && decide ((e :: es).length + ([] : List Keyword).length + (if ([] : List Keyword).isEmpty then 0 else 1) < 30)) = true := by rfl)
    (hline : (apos.endLine == cpos.line) = true := by rfl) (hs : starEach (e :: es) X.env = (false, eval e X.env) :: starEach es X.env := by rfl) (hplain : (backTo cpos (starEach es X.env)).any (·.1) = false := by rfl) :
    PE X (.Call (.Attribute o "add" apos) (e :: es) [] cpos) (tAddT X.K X.prog X.w to t) := by
  refine ⟨fun pins s σ H Q I h => wpAny_Call_method_late hbase hfew hline rfl (thn (ho.run pins s σ H _ I h) fun v s1 ⟨x, H1, I1, r1, ty, q1⟩ => ?_)⟩
  obtain ⟨a, L, rfl, hka⟩ := ty
  obtain ⟨es', ep, tt, ⟨ob, hob, hex, _⟩, _⟩ := (I1.hok a _ hka).1.ex
  cases r1
  refine ⟨"set", "set.add", F.plainAttrs_set, F.slot_set_add, F.type_set_add, ⟨ob, hob, hex.1⟩, (fun c e => by cases e; exact ⟨ob, hob, hex.2.1⟩), ?_⟩
  have hA := ha.run cpos pins s1 σ H1 _ I1 q1
  rw [hs] at hA ⊢
  refine Calls.callWith_builtin ?_ (Calls.evalArgs_plain (thn hA fun us s2 ⟨vs, H2, I2, r2, q2⟩ => mt_addT hu pins s2 σ H2 (.ref a) vs (.ref a) us Q I2 rfl r2 q2))
  show (false || (backTo cpos (starEach es X.env)).any (·.1)) = false
  rw [hplain] <;> rfl
end

/-! ### a set of tuples written over: it is no table and no code object -/
instance {P : Program} {w : World} {a : Addr} {L : List (Addr × List Int)} : Nt (SetTO P w a L) := ⟨rfl⟩
theorem setTO_ne_code {P : Program} {w : World} {a c : Addr} {L : List (Addr × List Int)} {q : Str} : SetTO P w a L ≠ LamX.CodeO c q := fun e => by
  have e : (fun h : Heap => SetT0 P w h a L) = fun h : Heap => ∃ (oc : Obj) (vs : Array Value) (t : Tok), h.get? c = some oc ∧ oc.data = .fields vs ∧ vs[1]? = some (.str q t) := HO.ext.inj e
  let ob : Obj := { cls := .none, data := .fields #[.none, .str q default] }
  let h : Heap := { objs := Array.replicate (c + 1) ob }
  have hg : ∀ (b : Addr) (o : Obj), h.get? b = some o → o = ob := fun b o hb => by
    have : (Array.replicate (c + 1) ob)[b]? = none ∨ (Array.replicate (c + 1) ob)[b]? = some ob := by
      rw [Array.getElem?_replicate]
      split
      · exact .inr rfl
      · exact .inl rfl
    unfold Heap.get? at hb
    rcases this with z | z
    · rw [show h.objs[b]? = none from z] at hb; cases hb
    · rw [show h.objs[b]? = some ob from z] at hb
      exact (Option.some.inj hb).symm
  have hc : h.get? c = some ob := by
    unfold Heap.get?
    rw [show h.objs[c]? = some ob by
      show (Array.replicate (c + 1) ob)[c]? = some ob
      rw [Array.getElem?_replicate, if_pos (Nat.lt_succ_self c)]]
  have r := (congrFun e h).mpr ⟨ob, _, default, hc, rfl, rfl⟩
  obtain ⟨es, ep, t, ⟨o, h1, h2, h3⟩, _⟩ := r.ex
  obtain rfl := hg _ _ h1
  cases h3
theorem Same.overSetT {P : Program} {w : World} {H H' : Hp} {D : Addr} {o : HO} {L : List (Addr × List Int)} (s : Same H H') (n0 : H D = Option.none) (e : H' D = Option.some (SetTO P w D L)) : Same H (L2.upd H' D o) :=
  ⟨fun b v h m => (upd_ne (ne_of_none h n0)).trans (s.at_ b v h m), fun b ps h => let ⟨qs, z⟩ := s.tb b ps h; ⟨qs, (upd_ne (ne_of_none h n0)).trans z⟩, fun t q hq => by
    obtain ⟨ps, h1, h2, h3⟩ := s.ts t q hq
    have n1 : q.1 ≠ D := fun z => by rw [z, e] at h1; cases h1
    refine ⟨ps, by rw [upd_ne n1]; exact h1, h2, fun pos cv hc => ?_⟩
    obtain ⟨c, ec, hco⟩ := h3 pos cv hc
    have n2 : c ≠ D := fun z => by rw [z, e] at hco; exact setTO_ne_code (Option.some.inj hco)
    exact ⟨c, ec, by rw [upd_ne n2]; exact hco⟩⟩

/-! ### dict comprehensions with tuples as keys -/
def tDcT (wi : TI) (g : TG) (tt : TT) (tk tv : TE) (vs : List Nat) : TE := fun σ H Q => wi σ H fun J H1 => ∀ D, H1 D = none → ∃ W : Nat → Nat → Hp → Prop, (∃ m, W 0 m (upd H1 D (.dT []))) ∧ ∀ i m H, W i m H →
  (J.stop i H ∧ Q (.ref D) H) ∨ (J.go i H ∧ ∃ Nx : Hp → Prop, (∀ H', Nx H' → ∃ m', m' < m ∧ W (i + 1) m' H') ∧ ∀ x H', J.yld i H x H' → g x (wipe σ vs) H' fun σ2 H2 => wipe σ2 vs = wipe σ vs ∧ tt σ2 H2 fun b H3 =>
    if b = true then tk σ2 H3 fun y H4 => tv σ2 H4 fun z H5 => ∃ (kvs : List (List L2.Key × V)) (k : List L2.Key) (b' : Addr), y = .ref b' ∧ H5 b' = some (.tup (k.map kV)) ∧ H5 D = some (.dT kvs) ∧ kvs.length < sizeLine ∧ Nx (upd H5 D (.dT (putK kvs k z))) else Nx H3)
section
open PySem.Spec PyProof.Rows
theorem d_dictSetT {X : Cx} {pins : List (Addr × Obj)} {σ : L2.St} {H : Hp} {s : Shared} {E : Value → Shared → Prop} {D b : Addr} {kvs : List (List L2.Key × V)} {k : List L2.Key} {v : V} {r : Value} {Q : Unit → Shared → Prop} (hu : X.A.units + 1 < cLine) (I : Inv X pins σ H s)
    (eb : H b = some (.tup (k.map kV))) (hD : H D = some (.dT kvs)) (hz : kvs.length < sizeLine) (rv : RelV v r) (h : ∀ s', Inv X pins σ (upd H D (.dT (putK kvs k v))) s' → Q () s') :
    wpAny (model X.prog X.w) X.A (dictSet D (.ref b) r) Q E s := by
  obtain ⟨z, hd, xs, rel, dd⟩ := dt_of I.hok hD
  have hz2 : xs.length ≤ sizeLine := by rw [← Paired.length rel]; exact z
  have hl : (putK kvs k v).length ≤ sizeLine := by
    have := length_putK kvs k v
    omega
  refine wpAny_dictSet_heap (knd := tupleKind (mixKind X.prog X.w)) (show X.A.units < cLine by omega) (key_of I.hok eb) dd (fun h' dd' hs => h _ ?_) hz2
  obtain ⟨q, es, ep, hq, h2, h3, h4, h5, h6⟩ := dd'
  exact d_write I (by rw [hD]; trivial) hs ⟨q, hq⟩ ⟨hl, hd, storedH xs k b r, KT.keeps (KT.put rel k eb rv) fun c ys ec => (upd_ne (ne_of ec hD (fun z => nomatch z))).trans ec, q, es, ep, hq, h2, h3, h4, h6⟩
theorem dcT_core {X : Cx} {pins : List (Addr × Obj)} {s : Shared} {σ : L2.St} {H : Hp} {Q : VK} {kx vx tg iter : Expr} {ifs : List Expr} {scope : Scope} {own : List (Str × Nat)} {pos pos' : Pos} {wi : TI} {g : TG} {tt : TT} {tk tv : TE} {use : Option (Value → Sem Unit)} {Qf : Value → Shared → Prop}
    (hu : X.A.units + 1 < cLine) (hc : X.calm = true) (hN : X.N.Nodup) (I : Inv X pins σ H s) (hi : PI X tg iter wi) (ok : BlkOk X.N X.env.scope scope own)
    (hg : ∀ (s : Shared) (H : Hp) (C : Addr) (cl : List (Str × Addr)) (fp : List Addr), PG (X.blk s H scope (compEnvC scope cl C X.env) fp) tg g) (ht : ∀ (s : Shared) (H : Hp) (C : Addr) (cl : List (Str × Addr)) (fp : List Addr), PTs (X.blk s H scope (compEnvC scope cl C X.env) fp) ifs tt)
    (hk : ∀ (s : Shared) (H : Hp) (C : Addr) (cl : List (Str × Addr)) (fp : List Addr), PE (X.blk s H scope (compEnvC scope cl C X.env) fp) kx tk)
    (he : ∀ (s : Shared) (H : Hp) (C : Addr) (cl : List (Str × Addr)) (fp : List Addr), PE (X.blk s H scope (compEnvC scope cl C X.env) fp) vx tv) (hs : ∀ x, foldedSetIterable iter X.env x = pure x)
    (h : tDcT wi g tt tk tv (own.map (·.2)) σ H Q)
    (hRR : ∀ (D C : Addr) (s' : Shared) (m : Str → Option Value) (H' : Hp), Inv X pins σ H' s' → Q (.ref D) H' → s'.heap.Ns C m → FpOk X pins H' C → compPost (model X.prog X.w) X.A X.xe use Qf (.ref D) C (Except.ok Flow.next) s') :
    wpAny (model X.prog X.w) X.A (comprehension (kx.DictComp vx [⟨tg, iter, ifs, 0⟩] scope pos) scope X.env pos' newDict false (eval iter X.env) use) Qf X.xe s := by
  have hfree : ∀ y ∈ scope.names, y.2 = .free → ∃ c, X.env.cells.lookup y.1 = some c := fun y hy e => (ok.free y hy e).elim (fun k => I.ok.has y.1 (.inl k)) fun k => I.ok.has y.1 (.inr k)
  refine wpAny_comprehension_free rfl hs (closure_ok hfree) ok.kind (fun y hy e => (ok.uniq y hy).trans (by rw [e])) ?_
  refine thn (hi.run pins s σ H _ I h) fun xv s1 hx => thn hx fun itv s2 h2 => ?_
  obtain ⟨it, fp, tn, J, H2, rfl, I2, T, st2, f2, q⟩ := h2
  refine wpAny_newObj_type (newEnv_comp ?_) ?_
  · obtain ⟨W, ⟨m0, w0⟩, turn⟩ := q s2.heap.objs.size (I2.hok.fresh (Nat.le_refl _))
    have I3 := I2.laid (t' := s2.toks) (h' := s2.heap.push { cls := Value.type "dict", data := Data.dict #[] }) (fun b o e => Heap.get?_push_of_some _ e) (Nat.le_refl s2.heap.objs.size) (dt_empty s2.heap I2.big)
    have sz : ∀ b, b ∈ fp → b < s2.heap.objs.size := fun b hb => let ⟨o, e, _⟩ := T.obj 0 s2.heap st2 b hb; Heap.lt_size e
    have f3 : ∀ b, b ∈ fp → FpOk X pins (upd H2 s2.heap.objs.size (.dT [])) b ∧ b < (s2.heap.push { cls := Value.type "dict", data := Data.dict #[] }).objs.size := fun b hb => ⟨⟨(upd_ne (Nat.ne_of_lt (sz b hb))).trans (f2 b hb).1, (f2 b hb).2⟩, by rw [Heap.size_push]; exact Nat.lt_succ_of_lt (sz b hb)⟩
    have st3 := T.keep 0 s2.heap (s2.heap.push { cls := Value.type "dict", data := Data.dict #[] }) st2 fun b _ o e => Heap.get?_push_of_some _ e
    have I4 := block_start I3 ok hN f3
    generalize hS3 : ({ heap := s2.heap.push { cls := Value.type "dict", data := Data.dict #[] }, gens := s2.gens, drawn := s2.drawn, toks := s2.toks, os := s2.os } : Shared) = S3 at I3 I4
    have hS3h : S3.heap = s2.heap.push { cls := Value.type "dict", data := Data.dict #[] } := by rw [← hS3]
    generalize hH3 : upd H2 s2.heap.objs.size (.dT []) = H3 at I3 I4 w0 f3
    have pg := hg S3 H3 S3.heap.objs.size (cellsFrom (S3.heap.objs.size + 1) scope.names (cloFrom X.env.cells scope.names [])) fp
    have pt := ht S3 H3 S3.heap.objs.size (cellsFrom (S3.heap.objs.size + 1) scope.names (cloFrom X.env.cells scope.names [])) fp
    have pk := hk S3 H3 S3.heap.objs.size (cellsFrom (S3.heap.objs.size + 1) scope.names (cloFrom X.env.cells scope.names [])) fp
    have pe := he S3 H3 S3.heap.objs.size (cellsFrom (S3.heap.objs.size + 1) scope.names (cloFrom X.env.cells scope.names [])) fp
    have cL : (compEnvC scope (cellsFrom (S3.heap.objs.size + 1) scope.names (cloFrom X.env.cells scope.names [])) S3.heap.objs.size X.env).locals = S3.heap.objs.size := rfl
    generalize hCE : compEnvC scope (cellsFrom (S3.heap.objs.size + 1) scope.names (cloFrom X.env.cells scope.names [])) S3.heap.objs.size X.env = CE at I4 pg pt pk pe cL
    have nfp : ∀ b, b ∈ fp → H3 b = none := fun b hb => (f3 b hb).1.1
    have st4 := T.keep 0 S3.heap (pushCells (S3.heap.push { cls := Value.type "dict", data := Data.dict #[] }) scope.names) (by rw [hS3h]; exact st3) fun b _ o e => pushCells_keeps scope.names _ b o (Heap.get?_push_of_some _ e)
    have stat : ∀ {σ' : L2.St} {H' : Hp} {s' : Shared}, Inv (X.blk S3 H3 scope CE fp) [] σ' H' s' → (∀ b, b ∈ fp → H' b = none) → ∀ b, b ∈ fp → FpOk (X.blk S3 H3 scope CE fp) [] H' b := fun I' hn b hb => ⟨hn b hb, (I'.ok.exf b hb).1, I'.ok.exfs b hb, .inl hb, fun x c e => (I'.ok.exf b hb).2 x c e, fun p hp => absurd (show p ∈ ([] : List (Addr × Obj)) from by simpa using hp) (by simp)⟩
    have loop : codeAny (model X.prog X.w) X.A (Code.compLoop (kx.DictComp vx [⟨tg, iter, ifs, 0⟩] scope pos) 0 (.ref it) (.ref s2.heap.objs.size) CE) (compPost (model X.prog X.w) X.A X.xe use Qf (.ref s2.heap.objs.size) S3.heap.objs.size) { heap := pushCells (S3.heap.push { cls := Value.type "dict", data := Data.dict #[] }) scope.names, gens := S3.gens, drawn := S3.drawn, toks := S3.toks, os := S3.os } := by
      refine compLoop_anyD (fun n s' => ∃ i H', Inv (X.blk S3 H3 scope CE fp) [] (wipe σ (own.map (·.2))) H' s' ∧ tn i s'.heap ∧ (∀ b, b ∈ fp → H' b = none) ∧ W i n H') (fun n s5 hI => ?_) m0 ⟨0, H3, I4, st4, nfp, w0⟩
      obtain ⟨i, H5, I5, st5, n5, w5⟩ := hI
      rcases turn i n H5 w5 with ⟨stop, qq⟩ | ⟨go, Nx, hNx, step⟩
      · have td := T.done (X.blk S3 H3 scope CE fp) rfl rfl rfl hc i [] s5 (wipe σ (own.map (·.2))) H5 (fun _ _ => False) I5 (stat I5 n5) st5 stop
        refine thnF td fun r s6 x => ?_
        obtain ⟨hr, I6⟩ := x
        subst hr
        show compPost (model X.prog X.w) X.A X.xe use Qf (.ref s2.heap.objs.size) S3.heap.objs.size (Except.ok Flow.next) s6
        have I7 := Inv.call' I3 I6.os I6.base I6.hok I6.bare fun b hb => ⟨(f3 b hb).1.2.2.2.1, (f3 b hb).1.2.1, (f3 b hb).1.2.2.2.2.1, (f3 b hb).1.2.2.2.2.2⟩
        have nC : H5 S3.heap.objs.size = none := by
          have z := I6.free
          exact cL ▸ z
        obtain ⟨m, hn, _⟩ := I6.loc
        exact hRR s2.heap.objs.size S3.heap.objs.size s6 m H5 I7 qq (cL ▸ hn) (Inv.fpOk I3 (Nat.le_refl _) nC)
      · have ti := T.item (X.blk S3 H3 scope CE fp) rfl rfl rfl hc i [] s5 (wipe σ (own.map (·.2))) H5 (fun _ _ => False) I5 (stat I5 n5) st5 go
        refine thnF ti fun r s6 x => ?_
        obtain ⟨u, hr, h6⟩ := x
        subst hr
        refine thnF h6 fun _ s7 x => ?_
        obtain ⟨x, H7, I7, r7, y7, st7, n7⟩ := x
        have I7' := Inv.pinned I7 (stat I7 n7) (T.obj (i + 1) s7.heap st7)
        refine thnF (pg.run ([] ++ pinsAt fp s7.heap) s7 (wipe σ (own.map (·.2))) H7 x u _ I7' r7 (step x H7 y7)) fun _ s8 x => ?_
        obtain ⟨σ8, H8, I8, hw8, q8⟩ := x
        refine thnF (pt.run ([] ++ pinsAt fp s7.heap) s8 σ8 H8 _ I8 q8) fun b s9 x => ?_
        obtain ⟨H9, I9, q9⟩ := x
        have fin : ∀ {s' : Shared} {H' : Hp}, Inv (X.blk S3 H3 scope CE fp) ([] ++ pinsAt fp s7.heap) σ8 H' s' → Nx H' → ∃ m, m < n ∧ ∃ i H', Inv (X.blk S3 H3 scope CE fp) [] (wipe σ (own.map (·.2))) H' s' ∧ tn i s'.heap ∧ (∀ b, b ∈ fp → H' b = none) ∧ W i m H' := fun {s' H'} I' nx => by
          obtain ⟨m', hm, w'⟩ := hNx H' nx
          have pin' : ∀ b, b ∈ fp → ∀ o, s7.heap.get? b = some o → s'.heap.get? b = some o ∧ H' b = none := fun b hb o e => by
            have z := I'.pin (b, o) (List.mem_append_right (X.blk S3 H3 scope CE fp).pn (List.mem_append_right [] (mem_pinsAt hb e)))
            exact ⟨z.1, z.2.1⟩
          have hl : (wipe σ (own.map (·.2))).length = σ8.length := by rw [← hw8, wipe_length]
          exact ⟨m', hm, i + 1, H', Inv.weak (Inv.unpinned I') hl fun j v e => (wipe_some (hw8.symm ▸ e)).1, T.keep (i + 1) s7.heap s'.heap st7 fun b hb o e => (pin' b hb o e).1, fun b hb => let ⟨o, e, _⟩ := T.obj (i + 1) s7.heap st7 b hb; (pin' b hb o e).2, w'⟩
        cases b with
        | false => exact fin I9 q9
        | true =>
          refine thnF (pk.run ([] ++ pinsAt fp s7.heap) s9 σ8 H9 _ I9 q9) fun z s10 x => ?_
          obtain ⟨yk, H10, I10, r10, q10⟩ := x
          refine thnF (pe.run ([] ++ pinsAt fp s7.heap) s10 σ8 H10 _ I10 q10) fun z2 s11 x => ?_
          obtain ⟨yv, H11, I11, r11, kvs, k, b', rfl, eb, hD11, hz11, nx⟩ := x
          cases r10
          exact d_dictSetT (X := X.blk S3 H3 scope CE fp) hu I11 eb hD11 hz11 r11 fun s12 I12 => fin I12 nx
    subst hCE
    subst hS3
    exact codeAny_compStart_dict loop (T.self X.A 0 _ _ _ st4 loop)
  · show 0 ≤ sizeLine + 1
    exact Nat.zero_le _
end
section
open PySem.Spec PyProof.Rows
variable {X : Cx}
theorem pe_dcT {kx vx tg iter : Expr} {ifs : List Expr} {scope : Scope} {own : List (Str × Nat)} {pos : Pos} {wi : TI} {g : TG} {tt : TT} {tk tv : TE} (hu : X.A.units + 1 < cLine) (hc : X.calm = true) (hN : X.N.Nodup) (hi : PI X tg iter wi) (ok : BlkOk X.N X.env.scope scope own)
    (hg : ∀ (s : Shared) (H : Hp) (C : Addr) (cl : List (Str × Addr)) (fp : List Addr), PG (X.blk s H scope (compEnvC scope cl C X.env) fp) tg g) (ht : ∀ (s : Shared) (H : Hp) (C : Addr) (cl : List (Str × Addr)) (fp : List Addr), PTs (X.blk s H scope (compEnvC scope cl C X.env) fp) ifs tt)
    (hk : ∀ (s : Shared) (H : Hp) (C : Addr) (cl : List (Str × Addr)) (fp : List Addr), PE (X.blk s H scope (compEnvC scope cl C X.env) fp) kx tk)
    (he : ∀ (s : Shared) (H : Hp) (C : Addr) (cl : List (Str × Addr)) (fp : List Addr), PE (X.blk s H scope (compEnvC scope cl C X.env) fp) vx tv) (hs : ∀ x, foldedSetIterable iter X.env x = pure x := by intro _; rfl) :
    PE X (kx.DictComp vx [⟨tg, iter, ifs, 0⟩] scope pos) (tDcT wi g tt tk tv (own.map (·.2))) := by
  refine ⟨fun pins s σ H Q I h => ?_⟩
  rw [arm_eval_DictComp]
  exact dcT_core hu hc hN I hi ok hg ht hk he hs h fun D C s' m H' I' q hn f => ⟨m, hn, fun h'' sb => by
    obtain ⟨f0, f1, f2, f3, f4, f5⟩ := f
    exact ⟨.ref D, H', I'.turned (fun b o hb e => (sb.2 b hb).trans e) f0 f1 f3 f4 f5, rfl, q⟩⟩
theorem ps_setDcT {i : Nat} {y : Str} {py : Pos} {kx vx tg iter : Expr} {ifs : List Expr} {scope : Scope} {own : List (Str × Nat)} {pos spos : Pos} {wi : TI} {g : TG} {tt : TT} {tk tv : TE} (hu : X.A.units + 1 < cLine) (hc : X.calm = true) (hN : X.N.Nodup) (hy : X.N[i]? = some y) (hyl : X.env.scope.names.lookup y = some .local)
    (hsw : swapsWith (.DictComp kx vx [⟨tg, iter, ifs, 0⟩] scope pos) (some (.Name y py)) spos.line X.env = pure true) (hi : PI X tg iter wi) (ok : BlkOk X.N X.env.scope scope own)
    (hg : ∀ (s : Shared) (H : Hp) (C : Addr) (cl : List (Str × Addr)) (fp : List Addr), PG (X.blk s H scope (compEnvC scope cl C X.env) fp) tg g) (ht : ∀ (s : Shared) (H : Hp) (C : Addr) (cl : List (Str × Addr)) (fp : List Addr), PTs (X.blk s H scope (compEnvC scope cl C X.env) fp) ifs tt)
    (hk : ∀ (s : Shared) (H : Hp) (C : Addr) (cl : List (Str × Addr)) (fp : List Addr), PE (X.blk s H scope (compEnvC scope cl C X.env) fp) kx tk)
    (he : ∀ (s : Shared) (H : Hp) (C : Addr) (cl : List (Str × Addr)) (fp : List Addr), PE (X.blk s H scope (compEnvC scope cl C X.env) fp) vx tv) (hs : ∀ x, foldedSetIterable iter X.env x = pure x := by intro _; rfl) :
    PS X (.Assign [.Name y py] (.DictComp kx vx [⟨tg, iter, ifs, 0⟩] scope pos) spos) (tAsg (tDcT wi g tt tk tv (own.map (·.2))) (gName i)) := by
  refine ⟨fun pins s σ H D I h => ?_⟩
  rw [exec_Assign_Name_used _ _ _ _ hsw]
  have h : tDcT wi g tt tk tv (own.map (·.2)) σ H (fun x H1 => gName i x σ H1 D.nx) := h
  have run := dcT_core (Qf := fun _ s' => SP X pins D .next s') (use := some (assign (.Name y py) X.env)) (pos := pos) (pos' := firstIterPos [⟨tg, iter, ifs, 0⟩] pos) hu hc hN I hi ok hg ht hk he hs h fun L C s' m H' I' q hn f => by
    show wpAny _ _ (assign (.Name y py) X.env (.ref L)) _ _ _
    refine wpAny_assign_Name (store_ok2 (v := V.ref L) I' hN hy (.inl hyl) rfl (fun s2 I2 ⟨a, sb, ha⟩ => ?_) (.inr hyl))
    obtain ⟨f0, f1, f2, f3, f4, f5⟩ := f
    have haC : C ≠ a := ha.elim (fun z => by rw [z]; exact f1) fun z e => f4 y a z e.symm
    exact ⟨m, hn.sameBut sb haC, fun h3 sb3 => ⟨_, H', I2.turned (t' := s2.toks) (fun b o hb e => (sb3.2 b hb).trans e) f0 f1 f3 f4 f5, q⟩⟩
  refine wpAny_bind (wpAny_standAt (wpAny_bind (wpAny_bind (thn run fun _ s' hq => wpAny_pure (wpAny_pure hq)))))

end

/-! ### earliest -/
def spStartOf (M : Addr) : Sp := fun vs H Q _ => ∃ (m p : Addr) (o l g : Int) (zs : List Int), vs = [.ref m, .ref p] ∧ MachAt M H m o l g ∧ (0 ≤ o ∧ o ≤ 1000000000) ∧ (0 ≤ l ∧ l ≤ 1000000000) ∧ (1 ≤ g ∧ g ≤ 1000000000) ∧ 0 < 2 * o + l ∧ H p = some (.tup (.int 0 :: zs.map V.int)) ∧ zs.length ≤ 199 ∧ (∀ z, z ∈ zs → 0 ≤ z ∧ z ≤ 1000000000000000) ∧ ∀ H', Same H H' → Q (.int (zs.length * (2 * o + l) + zs.sum * gapOf o g - (2 * o + l))) H'
def listN (n : Int) (f : Int → Int) : List Int := (List.range n.toNat).map fun h : Nat => f h
theorem listN_len {n : Int} {f : Int → Int} : (listN n f).length = n.toNat := by unfold listN; rw [List.length_map, List.length_range]
theorem listN_at {n : Int} {f : Int → Int} {x : Int} (h0 : 0 ≤ x) (h1 : x < n) : atI ((listN n f).map V.int) x = some (.int (f x)) := by
  obtain ⟨i, rfl⟩ : ∃ i : Nat, x = i := ⟨x.toNat, by omega⟩
  refine atI_nat ?_
  unfold listN
  rw [List.getElem?_map, List.getElem?_map, List.getElem?_range (by omega)]
  rfl
theorem listN_take {n : Int} {f : Int → Int} {i : Nat} (h : (i : Int) < n) : (listN n f).take (i + 1) = (listN n f).take i ++ [f i] := by
  have e : (listN n f)[i]? = some (f i) := by
    unfold listN
    rw [List.getElem?_map, List.getElem?_range (by omega)]
    rfl
  rw [take_more e]
def spWithStarts : Sp := fun vs H Q _ => ∃ (p S : Addr) (n : Int) (f : Int → Int) (xs : List V) (rs : List L3), vs = [.ref p, .ref S] ∧ SeqV H p xs ∧ TrisAt H xs rs ∧ rs.length ≤ 400 ∧ H S = some (.lst ((listN n f).map V.int)) ∧ (∀ l, l ∈ rs → 0 ≤ l.2.1 ∧ l.2.1 < n) ∧ ∀ (q : Addr) (ys : List V) (H' : Hp), Same H H' → H q = none → H' q = some (.lst ys) → TrisAt H' ys (rs.map fun l => (l.1, l.2.1, f l.2.1)) → Q (.ref q) H'
def spEarliest (M : Addr) : Sp := fun vs H Q _ => ∃ (m p : Addr) (o l g n : Int) (xs : List V) (rs : List L3) (nm : Int → List Int), vs = [.ref m, .int n, .ref p] ∧ MachAt M H m o l g ∧ (0 ≤ o ∧ o ≤ 1000000000) ∧ (0 ≤ l ∧ l ≤ 1000000000) ∧ (1 ≤ g ∧ g ≤ 1000000000) ∧ 0 < 2 * o + l ∧ (1 ≤ n ∧ n ≤ 100) ∧ SeqV H p xs ∧ TrisAt H xs rs ∧ faultF (2 * o + l) (gapOf o g) n rs = none ∧
  RightQ (2 * o + l) (gapOf o g) n rs ∧ NamesOk (2 * o + l) (gapOf o g) n rs nm ∧ TbsOk H ∧ ∀ (q : Addr) (ys : List V) (H' : Hp), Same H H' → H q = none → H' q = some (.lst ys) → TrisAt H' ys (eRows (2 * o + l) (gapOf o g) nm rs) → Q (.ref q) H'
section
variable {P : Program} {w : World} {K : PySem.W.Frag} {mg : Str → Option Value} {base : Heap} {a : Adr}
theorem ok_start_of (T : Txt K mg base a) : FnOk P w K mg base CX0 7 a.a_start_of a.d_start_of ["machine", "name"] (spStartOf a.c_Machine) := by
  refine T.F_start_of.ok sc_start_of (fun vs H Q E h => ?_) (fun cdv A outer s H vs Q E hr h => ?_)
  · obtain ⟨m, p, o, l, g, zs, rfl, _⟩ := h
    rfl
  · obtain ⟨m, p, o, l, g, zs, rfl, hm, ho, hl, hg, hp, ep, hl9, hz, k⟩ := h
    refine ⟨_, (pss_one (ps_ret (pe_op op_sub (pe_call (ok_known_at T) (hr.mono (by decide)) (by rfl) T.g_known_at T.F_known_at.kp (bd_known_at T).choose_spec.2 (bd_known_at T).choose_spec.1 pass0 (pa_cons (pv 0) (pa_cons (pv 1) pa_nil))) (pe_fld (pv 0) rfl)))), ?_⟩
    repeat first | walk_at "rd" | walk_at "rdi"
    refine ⟨m, p, a.t_known_at_roots, o, l, g, zs, rfl, hm, ho, hl, hg, hp, ep, T.t_known_at_roots _, hl9, hz, fun H1 s1 => ?_⟩
    obtain ⟨dx, em⟩ := hm.keep s1
    repeat first | exact k _ s1 | walk_at "rd" | walk_at "rdi"
theorem ok_with_starts (T : Txt K mg base a) : FnOk P w K mg base CX0 1 a.a_with_starts a.d_with_starts ["rows", "starts"] spWithStarts := by
  refine T.F_with_starts.ok sc_with_starts (fun vs H Q E h => ?_) (fun cdv A outer s H vs Q E hr h => ?_)
  · obtain ⟨p, S, n, f, xs, rs, rfl, _⟩ := h
    rfl
  · obtain ⟨p, S, n, f, xs, rs, rfl, ep, hA, hl, eS, hr9, k⟩ := h
    refine ⟨_, (pss_one (ps_ret (pe_lc (own := [("sender", 2), ("receiver", 3), ("_", 4)]) (g := gTup K 3 (gCons (gName 2) (gCons (gName 3) (gCons (gName 4) (gNil))))) (tt := tYes) rfl sc_with_starts.nd (pi_seq (pv 0)) (blkOk_by (own := [("sender", 2), ("receiver", 3), ("_", 4)]) (N := ["rows", "starts", "sender", "receiver", "_"]) (sc := defScope s_with_starts) (by decide +kernel)) (fun _ _ _ _ _ => (pg_tupK (K := K) (n := 3) rfl (by rfl) (pgs_cons (pg_name (i := 2) sc_with_starts.nd rfl (Or.inl rfl)) (pgs_cons (pg_name (i := 3) sc_with_starts.nd rfl (Or.inl rfl)) (pgs_cons (pg_name (i := 4) sc_with_starts.nd rfl (Or.inl rfl)) pgs_nil))))) (fun _ _ _ _ _ => pts_nil) (fun _ _ _ _ _ => (pe_tup (pa_cons (pv 2) (pa_cons (pv 3) (pa_cons (pe_ix (ix_listK (K := K) rfl) (pv 1) (pv 3) (fun _ _ => rfl)) pa_nil)))))))), ?_⟩
    repeat first | walk_at "rd" | refine r_CKw ?_
    refine r_lcSeq (xs := xs) (fun L i H' => ∃ ys, H' L = some (.lst ys) ∧ TrisAt H' ys ((rs.take i).map fun l => (l.1, l.2.1, f l.2.1)) ∧ Same H H') (by intro QA q; (repeat walk_at "rd"); exact q) ep (fun L hL => ⟨[], upd_same, by rw [List.take_zero]; exact TrisAt.nil, Same.new hL⟩) (fun L i H' hL ⟨_, _, _, h⟩ => h.seqK) ?_ ?_
    · rintro L i x H2 hL hx ⟨ys, e2, hY, s2⟩
      obtain ⟨t, l, rfl, hl1, et⟩ := (hA.keep s2).get hx
      have hi9 := (List.getElem?_eq_some_iff.mp hl1).1
      have hlm := hr9 l (List.mem_iff_getElem?.mpr ⟨i, hl1⟩)
      have hyl := hY.1
      repeat walk_at "rd"
      refine ⟨rfl, ?_⟩
      repeat walk_at "rd"
      refine r_ixL (s2 _ _ eS) (listN_at hlm.1 hlm.2) ?_
      repeat walk_at "rd"
      refine new_at (Nat.le_of_ble_eq_true rfl) (fun q H3 n3 s3 e3 => ?_)
      have e2 := s3 _ _ e2
      refine ⟨ys, e2, small1000 (by rw [hyl, List.length_map, List.length_take]; omega), ys ++ [V.ref q], upd_same, ?_, (s2.trans s3).over hL e2⟩
      rw [take_more hl1, List.map_append]
      exact TrisAt.upd (TrisAt.snoc (hY.keep s3) e3) e2
    · rintro L H2 hL ⟨ys, e2, hY, s2⟩
      rw [hA.1, List.take_length] at hY
      repeat first | exact k L ys H2 s2 hL e2 hY | walk_at "rd" | refine r_CKw ?_
theorem ok_earliest (T : Txt K mg base a) : FnOk P w K mg base CX0 8 a.a_earliest a.d_earliest ["machine", "n", "plan"] (spEarliest a.c_Machine) := by
  refine T.F_earliest.ok sc_earliest (fun vs H Q E h => ?_) (fun cdv A outer s H vs Q E hr h => ?_)
  · obtain ⟨m, p, o, l, g, n, xs, rs, nm, rfl, _⟩ := h
    rfl
  · obtain ⟨m, p, o, l, g, n, xs, rs, nm, rfl, hm, ho, hl, hg, hp, hn, ep, hA, hf, hQ, hN, hT, k⟩ := h
    refine ⟨_, (pss_cons (ps_set (i := 3) sc_earliest.nd rfl (Or.inl rfl) (pe_call (ok_names_of T) (hr.mono (by decide)) (by rfl) T.g_names_of T.F_names_of.kp T.b_names_of .nil pass0 (pa_cons (pv 0) (pa_cons (pv 1) (pa_cons (pv 2) pa_nil)))))
 (pss_one (ps_ret (pe_call (ok_with_starts T) (hr.mono (by decide)) (by rfl) T.g_with_starts T.F_with_starts.kp T.b_with_starts .nil pass0 (pa_cons (pv 2) (pa_cons (pe_lc (own := [("name", 4)]) (g := gName 4) (tt := tYes) rfl sc_earliest.nd (pi_list (pv 3)) (blkOk_by (own := [("name", 4)]) (N := ["machine", "n", "plan", "names", "name"]) (sc := defScope s_earliest) (by decide +kernel)) (fun _ _ _ _ _ => (pg_name (i := 4) sc_earliest.nd rfl (Or.inl rfl))) (fun _ _ _ _ _ => pts_nil) (fun _ _ _ _ _ => (pe_call (ok_start_of T) (hr.mono (by decide)) (by rfl) T.g_start_of T.F_start_of.kp T.b_start_of .nil pass0 (pa_cons (pv 0) (pa_cons (pv 4) pa_nil))))) pa_nil)))))), ?_⟩
    have hG : 0 < gapOf o g ∧ gapOf o g < 2 ^ 64 := by unfold gapOf; split <;> omega
    have hlen := hQ.len
    repeat first | walk_at "rd" | walk_at "rdi"
    refine ⟨m, p, o, l, g, n, xs, rs, nm, rfl, hm, hp, hG.1, hG.2, hn, ep, hA, hf, hQ, hN, hT, fun N ns H1 s1 nN eN hY => ?_⟩
    have hyl := hY.1
    repeat first | walk_at "rd" | walk_at "rdi"
    refine ⟨N, rfl, ⟨_, SqL.of eN⟩, fun L hL => lc_list (K := K) (a := N) (xs := ns) (fun i H' => H' L = some (.lst (((listN n fun x => timeN (2 * o + l) (gapOf o g) (nm x) - (2 * o + l)).take i).map V.int)) ∧ Same H1 H') ⟨by rw [List.take_zero]; exact upd_same, Same.new hL⟩ (fun i H' _ h => SqL.of (h.2 _ _ eN)) ?_ ?_⟩
    · rintro i x H2 hx ⟨f1, s2⟩
      have hi := (List.getElem?_eq_some_iff.mp hx).1
      obtain ⟨t, e1, e2⟩ := (hY.keep s2).2 i (by omega)
      obtain rfl : V.ref t = x := Option.some.inj (e1.symm.trans hx)
      obtain ⟨zs, z1, z2, z3⟩ := hN.shape i (by omega) (by omega)
      rw [z1] at e2
      have hm2 := (hm.keep s1).keep s2
      repeat first | walk_at "rd" | walk_at "rdi"
      refine ⟨rfl, ?_⟩
      repeat first | walk_at "rd" | walk_at "rdi"
      refine ⟨m, t, o, l, g, zs, rfl, hm2, ho, hl, hg, hp, e2, by omega, fun z hz => by have := z3 z hz; omega, fun H3 s3 => ?_⟩
      have f1 := s3 _ _ f1
      refine ⟨_, f1, small1000 (by rw [List.length_map, List.length_take, listN_len]; omega), ?_, (s2.trans s3).over hL f1⟩
      rw [upd_same, listN_take (by omega), List.map_append, z1]
      unfold timeN
      rw [List.length_cons, List.sum_cons, Int.zero_add, show (((zs.length + 1 : Nat) : Int) - 1) = zs.length by omega]
      rfl
    · rintro H2 ⟨f1, s2⟩
      have s12 := s1.trans s2
      rw [List.take_of_length_le (by rw [listN_len]; omega)] at f1
      repeat first | walk_at "rd" | walk_at "rdi"
      refine ⟨p, L, n, _, xs, rs, rfl, ep.keep s12, hA.keep s12, by omega, f1, fun x hx => by have := hQ.hands x hx; omega, fun q ys H3 s3 nq eq hR => ?_⟩
      exact k q ys H3 (s12.trans s3) (s12.free nq) eq hR
end

/-! ### rows of three numbers, compared cell by cell -/
theorem triV_at {l : L3} {j : Nat} (h : j < 3) : ∃ z : Int, atI (triV l) (0 + (j : Int)) = some (.int z) := by
  match j, h with
  | 0, _ => exact ⟨l.1, rfl⟩
  | 1, _ => exact ⟨l.2.1, rfl⟩
  | 2, _ => exact ⟨l.2.2, rfl⟩
  | j + 3, h => exact absurd h (by omega)
def spSameRows : Sp := fun vs H Q _ => ∃ (p q : Addr) (xs ys : List V) (rs : List L3), vs = [.ref p, .ref q] ∧ H p = some (.lst xs) ∧ H q = some (.lst ys) ∧ TrisAt H xs rs ∧ TrisAt H ys rs ∧ rs.length ≤ 400 ∧ Q (.bl true) H
section
variable {P : Program} {w : World} {K : PySem.W.Frag} {mg : Str → Option Value} {base : Heap} {a : Adr}
set_option maxHeartbeats 0 in
theorem ok__law_same_rows (T : Txt K mg base a) : FnOk P w K mg base CX0 2 a.a__law_same_rows a.d__law_same_rows ["_law_thing", "_law_due"] spSameRows := by
  refine T.F__law_same_rows.ok sc__law_same_rows (fun vs H Q E h => ?_) (fun cdv A outer s H vs Q E hr h => ?_)
  · obtain ⟨p, q, xs, ys, rs, rfl, _⟩ := h
    rfl
  · obtain ⟨p, q, xs, ys, rs, rfl, ep, eq, hX, hY, hl, k⟩ := h
    refine ⟨_, (pss_cons (ps_if (PW.pt (pw_or (pt_not (pt_val (pe_callB call_isi (by rfl) T.n_isinstance (by decide +kernel) (pa_cons (pv 0) (pa_cons (pe_bltn (v := .ty "list") (u := .type "list") (by rfl) T.n_list (by decide +kernel) rfl) pa_nil))))) (pw_or1 (pt_cmpR op_ne (pe_callB call_len_seq (by rfl) T.n_len (by decide +kernel) (pa_cons (pv 0) pa_nil)) (pe_callB call_len_seq (by rfl) T.n_len (by decide +kernel) (pa_cons (pv 1) pa_nil)) (nomark _))))) (pss_one (ps_ret pe_bl))
 pss_nil)
 (pss_cons (ps_for (by exact PassesOwn.never) rfl (pi_range1 (by rfl) T.n_range (pa_cons (pe_callB call_len_seq (by rfl) T.n_len (by decide +kernel) (pa_cons (pv 1) pa_nil)) pa_nil)) (pg_name (i := 2) sc__law_same_rows.nd rfl (Or.inl rfl))
 (pss_cons (ps_if (PW.pt (pw_or (pt_not (pt_val (pe_callB call_isi (by rfl) T.n_isinstance (by decide +kernel) (pa_cons (pe_ix ix_list (pv 0) (pv 2) (fun _ _ => rfl)) (pa_cons (pe_bltn (v := .ty "tuple") (u := .type "tuple") (by rfl) T.n_tuple (by decide +kernel) rfl) pa_nil))))) (pw_or1 (pt_cmpR op_ne (pe_callB call_len_seq (by rfl) T.n_len (by decide +kernel) (pa_cons (pe_ix ix_list (pv 0) (pv 2) (fun _ _ => rfl)) pa_nil)) pe_int (nomark _))))) (pss_one (ps_ret pe_bl))
 pss_nil)
 (pss_one (ps_for (by exact PassesOwn.never) rfl (pi_range1 (by rfl) T.n_range (pa_cons pe_int pa_nil)) (pg_name (i := 3) sc__law_same_rows.nd rfl (Or.inl rfl))
 (pss_one (ps_if (pt_not (pt_val (pe_call (ok__law_is T) (hr.mono (by decide)) (by rfl) T.g__law_is T.F__law_is.kp T.b__law_is .nil pass0 (pa_cons (pe_ix ix_tup (pe_ix ix_list (pv 0) (pv 2) (fun _ _ => rfl)) (pv 3) (fun _ _ => rfl)) (pa_cons (pe_ix ix_tup (pe_ix ix_list (pv 1) (pv 2) (fun _ _ => rfl)) (pv 3) (fun _ _ => rfl)) pa_nil))))) (pss_one (ps_ret pe_bl))
 pss_nil))))))
 (pss_one (ps_ret pe_bl)))), ?_⟩
    have lx := hX.1
    have ly := hY.1
    repeat first | walk_at "rd" | walk_at "rdi"
    refine r_isi (n := "list") (b := true) (.base (.lst ep)) (kit_ty (by decide +kernel)) ?_
    repeat first | walk_at "rd" | walk_at "rdi"
    refine r_nDT (by omega) ?_
    repeat first | walk_at "rd" | walk_at "rdi"
    refine ⟨by omega, by omega, for_range (lo := 0) (n := (ys.length : Int).toNat) (fun i σ H' => ∃ v2 v3 : Option V, σ = [some (.ref p), some (.ref q), v2, v3] ∧ H' = H) ⟨_, _, rfl, rfl⟩ ?_ ?_⟩
    · rintro i σ H1 hi ⟨v2, v3, rfl, rfl⟩
      have hin : i < rs.length := by omega
      obtain ⟨t1, e1, et1⟩ := hX.2 i rs[i] (List.getElem?_eq_getElem hin)
      obtain ⟨t2, e2, et2⟩ := hY.2 i rs[i] (List.getElem?_eq_getElem hin)
      have a1 : atI xs (0 + (i : Int)) = some (.ref t1) := by rw [Int.zero_add]; exact atI_nat e1
      have a2 : atI ys (0 + (i : Int)) = some (.ref t2) := by rw [Int.zero_add]; exact atI_nat e2
      repeat first | walk_at "rd" | walk_at "rdi"
      refine r_ixL ep a1 ?_
      repeat first | walk_at "rd" | walk_at "rdi"
      refine r_isiTu true et1 (by decide +kernel) ?_
      repeat first | walk_at "rd" | walk_at "rdi"
      refine r_ixL ep a1 ?_
      repeat first | walk_at "rd" | walk_at "rdi"
      refine ⟨by omega, by omega, for_range (lo := 0) (n := 3) (fun j σ H' => ∃ v3 : Option V, σ = [some (.ref p), some (.ref q), some (.int (0 + (i : Nat))), v3] ∧ H' = H1) ⟨_, rfl, rfl⟩ ?_ ?_⟩
      · rintro j σ H2 hj ⟨v3, rfl, rfl⟩
        obtain ⟨z, a3⟩ := triV_at (l := rs[i]) hj
        repeat first | walk_at "rd" | walk_at "rdi"
        refine r_ixL ep a1 ?_
        repeat first | walk_at "rd" | walk_at "rdi"
        refine r_ixT et1 a3 ?_
        repeat first | walk_at "rd" | walk_at "rdi"
        refine r_ixL eq a2 ?_
        repeat first | walk_at "rd" | walk_at "rdi"
        refine r_ixT et2 a3 ?_
        repeat first | walk_at "rd" | walk_at "rdi"
        refine ⟨z, z, rfl, ?_⟩
        rw [decide_eq_true (show z = z from rfl)]
        repeat first | exact ⟨_, rfl, rfl⟩ | walk_at "rd" | walk_at "rdi"
      · rintro σ H2 ⟨v3, rfl, rfl⟩
        repeat first | exact ⟨_, _, rfl, rfl⟩ | walk_at "rd" | walk_at "rdi"
    · rintro σ H1 ⟨v2, v3, rfl, rfl⟩
      repeat first | exact k | walk_at "rd" | walk_at "rdi"
end

/-! ### all but the last -/
theorem sIx_last (xs : List V) (x : V) : HT.sIx (xs ++ [x]).length (xs ++ [x]).length (some (-1)) = xs.length := by
  show (if (-1 : Int) < 0 then ((-1 : Int) + ((xs ++ [x]).length : Int)).toNat else min (-1 : Int).toNat (xs ++ [x]).length) = _
  rw [if_pos (by decide), List.length_append, List.length_singleton]
  omega
theorem cut_init (xs : List V) (x : V) : cutV (xs ++ [x]) none (some (-1)) = xs := by
  unfold cutV
  rw [sIx_last, HT.sIx_none, List.drop_zero, Nat.sub_zero, List.take_left]
theorem not_whole2 (xs : List V) (x : V) : ¬ (HT.sIx (xs ++ [x]).length 0 none = 0 ∧ HT.sIx (xs ++ [x]).length (xs ++ [x]).length (some (-1)) = (xs ++ [x]).length) := by
  rw [sIx_last, List.length_append, List.length_singleton]
  omega
theorem tup_snoc (r : Nat) (ws : List Int) (z : Int) : (V.int r :: (ws ++ [z]).map V.int) = (V.int r :: ws.map V.int) ++ [V.int z] := by
  rw [List.map_append]; rfl

/-! ### names checked: a tree of right names -/
theorem r_inT {K : PySem.W.Frag} {P : Program} {w : World} {H : Hp} {Q : VK} {a b : Addr} {k : List Int} {L : List (Addr × List Int)} (ha : H a = some (SetTO P w a L)) (hL : TupsIn K H L) (hb : SqT K H b (k.map V.int)) (q : Q (.bl (decide (k ∈ L.map (fun x => x.snd)))) H) : rInT K P w false (.ref b) (.ref a) H Q := ⟨a, b, k, L, rfl, rfl, ha, hL, hb, q⟩
theorem r_ninT {K : PySem.W.Frag} {P : Program} {w : World} {H : Hp} {Q : VK} {a b : Addr} {k : List Int} {L : List (Addr × List Int)} (ha : H a = some (SetTO P w a L)) (hL : TupsIn K H L) (hb : SqT K H b (k.map V.int)) (q : Q (.bl (!decide (k ∈ L.map (fun x => x.snd)))) H) : rInT K P w true (.ref b) (.ref a) H Q := ⟨a, b, k, L, rfl, rfl, ha, hL, hb, q⟩
theorem r_addT {K : PySem.W.Frag} {P : Program} {w : World} {to : TE} {t : TA} {σ : St} {H : Hp} {Q : VK} (h : to σ H fun x H1 => (∃ a L, x = .ref a ∧ H1 a = some (SetTO P w a L)) ∧ t σ H1 fun xs H2 => rAddT K P w x xs H2 Q) : tAddT K P w to t σ H Q := h
/-- the same, as they were laid -/
def TupsP (H : Hp) (L : List (Addr × List Int)) : Prop := ∀ p, p ∈ L → H p.1 = some (.tup (p.2.map V.int))
theorem TupsP.in {K : PySem.W.Frag} {H : Hp} {L : List (Addr × List Int)} (h : TupsP H L) : TupsIn K H L := fun p hp => SqT.of (h p hp)
theorem TupsP.keep {H H' : Hp} {L : List (Addr × List Int)} (h : TupsP H L) (s : Same H H') : TupsP H' L := fun p hp => s _ _ (h p hp)
theorem TupsP.upd {P : Program} {w : World} {H : Hp} {D : Addr} {o : HO} {L L' : List (Addr × List Int)} (h : TupsP H L) (e : H D = some (SetTO P w D L')) : TupsP (L2.upd H D o) L := fun p hp => (upd_ne (fun z => by have := h p hp; rw [z, e] at this; cases this)).trans (h p hp)
theorem SeqV.any {K : PySem.W.Frag} {H : Hp} {p : Addr} {xs : List V} (h : SeqV H p xs) : ∃ t, TyX K H (.ref p) t ∧ PySem.W.kitAny K t [.type "list", .type "tuple"] = some true := by
  rcases h with h | h
  · exact ⟨_, .base (.lst h), kitAny_cons (b := true) (kit_ty (by decide +kernel)) (fun z => Bool.noConfusion z) fun _ => rfl⟩
  · exact ⟨_, .base (.tup h), kitAny_cons (b := false) (kit_ty (by decide +kernel)) (fun _ => kitAny_cons (b := true) (kit_ty (by decide +kernel)) (fun z => Bool.noConfusion z) fun _ => rfl) (fun z => Bool.noConfusion z)⟩
theorem SeqV.kk {H H2 H' : Hp} {p : Addr} {xs : List V} (h : SeqV H p xs) (s2 : Same H H2) (s : Same H H') : SeqK H2 H' p xs := by
  rcases h with e | e
  · exact ⟨fun _ => s _ _ e, (fun ho => (by rw [s2 _ _ e] at ho; cases ho))⟩
  · exact ⟨(fun ho => (by rw [s2 _ _ e] at ho; cases ho)), fun _ => s _ _ e⟩
theorem r_setT0 {P : Program} {w : World} {H : Hp} {Q : VK} (k : ∀ p H', H p = none → Same H H' → H' p = some (SetTO P w p []) → Q (.ref p) H') : rSetT0 P w [] H Q := ⟨rfl, fun p hp => k p _ hp (Same.new hp) upd_same⟩
theorem atI_last (xs : List V) (x : V) : atI (xs ++ [x]) (-1) = some x := by
  have e : (xs ++ [x])[xs.length]? = some x := by simp
  have ei : ixN (xs ++ [x]).length (-1) = some xs.length := by
    unfold ixN
    rw [List.length_append, List.length_singleton]
    simp
    omega
  unfold atI
  rw [ei]
  exact e
def spIsName0 (K : PySem.W.Frag) : Sp := fun vs H Q _ => ∃ (p r : Addr) (zs : List Int), vs = [.ref p, .non, .ref r] ∧ H p = some (.tup (.int 0 :: zs.map V.int)) ∧ SqT K H r [.int 0] ∧ zs.length ≤ 199 ∧ (∀ z, z ∈ zs → 0 ≤ z ∧ z ≤ 1000000000000000) ∧ ∀ H', Same H H' → Q (.bl true) H'
def spCheckNames : Sp := fun vs H Q _ => ∃ (p : Addr) (xs : List V) (n : Int) (nm : Int → List Int), vs = [.ref p] ∧ SeqV H p xs ∧ NmsAt H xs n nm ∧ (1 ≤ n ∧ n ≤ 60) ∧ TreeN (namesL n nm) ∧ ∀ H', Same H H' → Q .non H'
section
variable {P : Program} {w : World} {K : PySem.W.Frag} {mg : Str → Option Value} {base : Heap} {a : Adr}
theorem ok_is_name (T : Txt K mg base a) : FnOk P w K mg base CX0 5 a.a_is_name a.d_is_name ["thing", "turns", "roots"] (spIsName0 K) := by
  refine T.F_is_name.ok sc_is_name (fun vs H Q E h => ?_) (fun cdv A outer s H vs Q E hr h => ?_)
  · obtain ⟨p, r, zs, rfl, _⟩ := h
    rfl
  · obtain ⟨p, r, zs, rfl, ep, er, hl, hz, k⟩ := h
    refine ⟨_, (pss_cons (ps_expr (pe_call (ok_check_turns T) (hr.mono (by decide)) (by rfl) T.g_check_turns T.F_check_turns.kp T.b_check_turns .nil pass0 (pa_cons (pv 1) pa_nil)))
 (pss_cons (ps_expr (pe_call (ok_check_roots T) (hr.mono (by decide)) (by rfl) T.g_check_roots T.F_check_roots.kp T.b_check_roots .nil pass0 (pa_cons (pv 2) pa_nil)))
 (pss_one (ps_ret (pe_cmpR op_isNo (pe_call (ok_wrong_in_name T) (hr.mono (by decide)) (by rfl) T.g_wrong_in_name T.F_wrong_in_name.kp T.b_wrong_in_name .nil pass0 (pa_cons (pv 0) (pa_cons (pv 1) (pa_cons (pv 2) pa_nil)))) pe_non (nomark _)))))), ?_⟩
    repeat walk_at "rd"
    refine ⟨none, rfl, trivial, ?_⟩
    repeat walk_at "rd"
    refine ⟨r, [0], rfl, .inr er, ok1, fun H1 s1 => ?_⟩
    repeat walk_at "rd"
    refine ⟨p, r, zs, rfl, s1 _ _ ep, sqT_keep er s1, hl, hz, fun H2 s2 => ?_⟩
    repeat walk_at "rd"
    exact k _ (s1.trans s2)
set_option maxHeartbeats 4000000 in
theorem ok_check_names (T : Txt K mg base a) : FnOk P w K mg base CX0 6 a.a_check_names a.d_check_names ["names"] spCheckNames := by
  refine T.F_check_names.ok sc_check_names (fun vs H Q E h => ?_) (fun cdv A outer s H vs Q E hr h => ?_)
  · obtain ⟨p, xs, n, nm, rfl, _⟩ := h
    rfl
  · obtain ⟨p, xs, n, nm, rfl, ep, hX, hn, hT, k⟩ := h
    refine ⟨_, (pss_cons (ps_if (PW.pt (pw_or (pt_not (pt_val (pe_callB call_isiT (by rfl) T.n_isinstance (by decide +kernel) (pa_cons (pv 0) (pa_cons (pe_tup (pa_cons (pe_bltn (v := .ty "list") (u := .type "list") (by rfl) T.n_list (by decide +kernel) rfl) (pa_cons (pe_bltn (v := .ty "tuple") (u := .type "tuple") (by rfl) T.n_tuple (by decide +kernel) rfl) pa_nil))) pa_nil))))) (pw_or1 (pt_not (pt_chain op_le op_le pe_int (pe_callB call_len_seq (by rfl) T.n_len (by decide +kernel) (pa_cons (pv 0) pa_nil)) (pe_glob (v := .int 100) (by rfl) T.g_MOST_PLANNED.choose_spec ⟨_, rfl⟩)))))) (pss_one ps_never)
 pss_nil)
 (pss_cons (ps_set (i := 1) sc_check_names.nd rfl (Or.inl rfl) (pe_callTy0 cr_setT0 (by rfl) T.n_set (by decide +kernel)))
 (pss_cons (ps_for (by exact PassesOwn.never) rfl (pi_enumS (by rfl) T.n_enumerate (pa_cons (pv 0) pa_nil)) (pg_tup (by rfl) (pgs_cons (pg_name (i := 2) sc_check_names.nd rfl (Or.inl rfl)) (pgs_cons (pg_name (i := 3) sc_check_names.nd rfl (Or.inl rfl)) pgs_nil)))
 (pss_cons (ps_if (PW.pt (pw_or (pt_not (pt_val (pe_call (ok_is_name T) (hr.mono (by decide)) (by rfl) T.g_is_name T.F_is_name.kp (bd_is_name T).choose_spec.2 (bd_is_name T).choose_spec.1 pass0 (pa_cons (pv 3) pa_nil)))) (pw_or (pt_cmpR (or_inT hr.units) (pv 3) (pv 1) (by rfl)) (pw_or1 (PW.pt (pw_and (pt_cmpR op_eq (pv 2) pe_int (nomark _)) (pw_and1 (pt_cmpR (op_neD hr.units) (pv 3) (pe_tup (pa_cons pe_int pa_nil)) (nomark _))))))))) (pss_one ps_never)
 pss_nil)
 (pss_one (ps_expr (pe_addT hr.units (pv 1) (pa_cons (pv 3) pa_nil))))))
 (pss_one (ps_for (by exact PassesOwn.never) rfl (pi_enumS (by rfl) T.n_enumerate (pa_cons (pv 0) pa_nil)) (pg_tup (by rfl) (pgs_cons (pg_name (i := 2) sc_check_names.nd rfl (Or.inl rfl)) (pgs_cons (pg_name (i := 3) sc_check_names.nd rfl (Or.inl rfl)) pgs_nil)))
 (pss_cons (ps_if (PW.pt (pw_and (pt_cmpR op_gt (pv 2) pe_int (nomark _)) (pw_and1 (pt_cmpR (or_ninT hr.units) (pe_slice sl_tup (pv 3) po_none (po_some (pe_un un_neg pe_int))) (pv 1) (by rfl))))) (pss_one ps_never)
 pss_nil)
 (pss_one (ps_if (PW.pt (pw_and (pt_cmpR op_gt (pe_ix ix_tup (pv 3) (pe_un un_neg pe_int) (fun _ _ => rfl)) pe_int (nomark _)) (pw_and1 (pt_cmpR (or_ninT hr.units) (pe_op op_catT (pe_slice sl_tup (pv 3) po_none (po_some (pe_un un_neg pe_int))) (pe_tup (pa_cons (pe_op op_sub (pe_ix ix_tup (pv 3) (pe_un un_neg pe_int) (fun _ _ => rfl)) pe_int) pa_nil))) (pv 1) (by rfl))))) (pss_one ps_never)
 pss_nil)))))))), ?_⟩
    have hxl := hX.1
    have shp : ∀ i : Nat, (i : Int) < n → ∃ zs : List Int, nm i = 0 :: zs ∧ zs.length ≤ 199 ∧ ∀ z, z ∈ zs → 0 ≤ z ∧ z ≤ 1000000000000000 := fun i hi => by
      obtain ⟨zs, e1, e2, e3⟩ := hT.shape (nm i) (namesL_in (by omega) hi)
      rw [namesL_len] at e2 e3
      exact ⟨zs, e1, by omega, fun z hz => by have := e3 z hz; omega⟩
    repeat first | walk_at "rd" | walk_at "rdi"
    refine new_at (Nat.le_of_ble_eq_true rfl) (fun u H1 nu s1 e1 => ?_)
    obtain ⟨ty, hty, hk⟩ := SeqV.any (K := K) (ep.keep s1)
    repeat first | walk_at "rd" | walk_at "rdi"
    refine ⟨_, u, [.ty "list", .ty "tuple"], ty, [.type "list", .type "tuple"], true, rfl, e1, .cons (.ty _) (.cons (.ty _) .nil), hty, hk, ?_⟩
    repeat first | walk_at "rd" | walk_at "rdi"
    refine r_lenS (ep.keep s1).sq ?_
    repeat first | walk_at "rd" | walk_at "rdi"
    refine ite_tt (by omega) ?_
    repeat first | walk_at "rd" | walk_at "rdi"
    refine r_nDT (by omega) ?_
    repeat first | walk_at "rd" | walk_at "rdi"
    refine r_setT0 (P := P) (w := w) (fun D H2 nD s2 eD => ?_)
    have nDH : H D = none := s1.free nD
    have s2 := s1.trans s2
    clear s1 hty hk e1 nu nD
    repeat first | walk_at "rd" | walk_at "rdi"
    refine r_enS2 (xs := xs) (by intro QA q; (repeat walk_at "rd"); exact q) (ep.keep s2) (fun i σ H' => ∃ (v2 v3 : Option V) (L : List (Addr × List Int)), σ = [some (.ref p), some (.ref D), v2, v3] ∧ Same H H' ∧ H' D = some (SetTO P w D L) ∧ TupsP H' L ∧ L.length = i ∧ ∀ x, x ∈ L.map (fun y => y.2) ↔ ∃ j : Nat, j < i ∧ x = nm j) ⟨_, _, [], rfl, s2, eD, fun p hp => (nomatch hp), rfl, fun x => ⟨fun h => (nomatch h), fun ⟨j, hj, _⟩ => absurd hj (Nat.not_lt_zero j)⟩⟩ ?_ ?_ ?_
    · rintro i σ H' ⟨_, _, _, _, s, _⟩
      exact ep.kk s2 s
    · rintro i x σ H3 u3 H4 hx ⟨v2, v3, L, rfl, s3, eD, hL, hl, hm⟩ nu3 rfl
      have hi := (List.getElem?_eq_some_iff.mp hx).1
      obtain ⟨t, et1, et⟩ := (hX.keep s3).2 i (by omega)
      obtain rfl : V.ref t = x := Option.some.inj (et1.symm.trans hx)
      obtain ⟨zs, ez, hz9, hzb⟩ := shp i (by omega)
      have s4 : Same H3 (upd H3 u3 (.tup [.int (i : Nat), .ref t])) := Same.new nu3
      have eu4 : upd H3 u3 (.tup [.int (i : Nat), .ref t]) u3 = some (.tup [.int (i : Nat), .ref t]) := upd_same
      have s34 := s3.trans s4
      have eD4 := (upd_ne (o := HO.tup [.int (i : Nat), .ref t]) (ne_of_none eD nu3)).trans eD
      generalize upd H3 u3 (.tup [.int (i : Nat), .ref t]) = H4 at s4 eu4 s34 eD4 ⊢
      have et := s4 _ _ et
      have hL := hL.keep s4
      repeat walk_at "rd"
      with_reducible refine seq_with (fun σ H' => σ = [some (.ref p), some (.ref D), some (.int (i : Nat)), some (.ref t)] ∧ Same H H' ∧ H' D = some (SetTO P w D L) ∧ TupsP H' L ∧ H' t = some (.tup ((nm i).map V.int))) ?_ (fun rest => ?_)
      · clear s4 eu4 s34 eD4 et hL nu3 eD s3
        rintro σ H6 ⟨rfl, s6, eD6, hL6, et6⟩
        repeat first | walk_at "rd" | walk_at "rdi"
        refine r_addT ?_
        repeat first | walk_at "rd" | walk_at "rdi"
        refine ⟨⟨D, L, rfl, eD6⟩, ?_⟩
        repeat first | walk_at "rd" | walk_at "rdi"
        have hnm : nm i ∉ L.map (fun y => y.2) := fun q => by
          obtain ⟨j, hj, e⟩ := (hm _).mp q
          have := nodup_at hT.nodup (namesL_get (n := n) (nm := nm) (i := i) (by omega)) (by rw [e]; exact namesL_get (n := n) (nm := nm) (i := j) (by omega))
          omega
        refine ⟨D, t, nm i, L, rfl, rfl, eD6, hL6.in, SqT.of et6, by omega, fun L' _ hp => ?_⟩
        have hp := hp hnm
        refine ⟨_, _, L', rfl, s6.overSetT nDH eD6, upd_same, fun q hq => ?_, by rw [hp.length_eq, List.length_cons, hl], fun x => ?_⟩
        · rcases List.mem_cons.mp (hp.mem_iff.mp hq) with rfl | hq
          · exact (upd_ne (fun z => by have z : t = D := z; rw [z, eD6] at et6; cases et6)).trans et6
          · exact hL6.upd eD6 q hq
        · rw [(hp.map (fun y => y.2)).mem_iff, List.map_cons, List.mem_cons, hm x]
          constructor
          · rintro (rfl | ⟨j, hj, e⟩)
            · exact ⟨i, by omega, rfl⟩
            · exact ⟨j, by omega, e⟩
          · rintro ⟨j, hj, e⟩
            by_cases c : j = i
            · left; rw [e, c]
            · right; exact ⟨j, by omega, e⟩
      · repeat first | walk_at "rd" | walk_at "rdi"
        refine ⟨t, a.t_is_name_roots, zs, rfl, by rw [et, ez]; rfl, T.t_is_name_roots _, hz9, hzb, fun H5 s5 => ?_⟩
        have s45 := s34.trans s5
        have eD5 := s5 _ _ eD4
        have et := s5 _ _ et
        have hL := hL.keep s5
        have hnm : nm i ∉ L.map (fun y => y.2) := fun q => by
          obtain ⟨j, hj, e⟩ := (hm _).mp q
          have := nodup_at hT.nodup (namesL_get (n := n) (nm := nm) (i := i) (by omega)) (by rw [e]; exact namesL_get (n := n) (nm := nm) (i := j) (by omega))
          omega
        repeat first | walk_at "rd" | walk_at "rdi"
        refine r_inT eD5 hL.in (SqT.of et) ?_
        rw [decide_eq_false hnm]
        repeat first | walk_at "rd" | walk_at "rdi"
        refine ite_d (fun hc => ?_) (fun hc => ?_)
        · obtain rfl : i = 0 := by omega
          repeat first | walk_at "rd" | walk_at "rdi"
          refine new_at (Nat.le_of_ble_eq_true rfl) (fun z H6 nz s6 ez6 => ?_)
          have z0 : nm ((0 : Nat) : Int) = [0] := by
            have := hT.zero
            rw [namesL_get (by omega)] at this
            exact Option.some.inj this
          refine r_neT0 (xs := [0]) (by rw [s6 _ _ et, z0]) ez6 ?_
          repeat first | exact rest _ _ ⟨rfl, s45.trans s6, s6 _ _ eD5, hL.keep s6, s6 _ _ et⟩ | walk_at "rd" | walk_at "rdi"
        · repeat first | exact rest _ _ ⟨rfl, s45, eD5, hL, et⟩ | walk_at "rd" | walk_at "rdi"
    · rintro σ H3 ⟨v2, v3, L, rfl, s3, eD, hL, hl, hm⟩
      clear s2
      repeat first | walk_at "rd" | walk_at "rdi"
      have hmem : ∀ x, x ∈ L.map (fun y => y.2) ↔ x ∈ namesL n nm := fun x => by
        rw [hm x]
        constructor
        · rintro ⟨j, hj, rfl⟩; exact namesL_in (by omega) (by omega)
        · intro hx
          obtain ⟨j, hj, e⟩ := namesL_mem hx
          exact ⟨j, by omega, e⟩
      refine r_enS2 (xs := xs) (by intro QA q; (repeat walk_at "rd"); exact q) (ep.keep s3) (fun i σ H' => ∃ (v2 v3 : Option V), σ = [some (.ref p), some (.ref D), v2, v3] ∧ Same H H' ∧ H' D = some (SetTO P w D L) ∧ TupsP H' L) ⟨_, _, rfl, s3, eD, hL⟩ (fun i σ H' ⟨_, _, _, s, _⟩ => ep.kk s3 s) ?_ ?_
      · clear s3 eD hL v2 v3
        rintro i x σ H4 u4 H5 hx ⟨v2, v3, rfl, s4, eD, hL⟩ nu4 rfl
        have hi := (List.getElem?_eq_some_iff.mp hx).1
        obtain ⟨t, et1, et⟩ := (hX.keep s4).2 i (by omega)
        obtain rfl : V.ref t = x := Option.some.inj (et1.symm.trans hx)
        have s5 : Same H4 (upd H4 u4 (.tup [.int (i : Nat), .ref t])) := Same.new nu4
        have eu5 : upd H4 u4 (.tup [.int (i : Nat), .ref t]) u4 = some (.tup [.int (i : Nat), .ref t]) := upd_same
        have eD5 := (upd_ne (o := HO.tup [.int (i : Nat), .ref t]) (ne_of_none eD nu4)).trans eD
        generalize upd H4 u4 (.tup [.int (i : Nat), .ref t]) = H5 at s5 eu5 eD5 ⊢
        have et := s5 _ _ et
        have hL := hL.keep s5
        have s5 := s4.trans s5
        repeat first | walk_at "rd"
        with_reducible refine seq_with (fun σ H' => σ = [some (.ref p), some (.ref D), some (.int (i : Nat)), some (.ref t)] ∧ Same H H' ∧ H' D = some (SetTO P w D L) ∧ TupsP H' L ∧ H' t = some (.tup ((nm i).map V.int))) ?_ (fun rest => ?_)
        · clear s5 eD5 hL et eu5 eD s4
          rintro σ H6 ⟨rfl, s6, eD, hL, et⟩
          rcases Nat.eq_zero_or_pos i with rfl | i1
          · have z0 : nm ((0 : Nat) : Int) = [0] := by
              have := hT.zero
              rw [namesL_get (by omega)] at this
              exact Option.some.inj this
            rw [z0] at et
            repeat first | walk_at "rd" | walk_at "rdi"
            refine ite_ff (by decide) ?_
            repeat first | exact ⟨_, _, rfl, s6, eD, hL⟩ | walk_at "rd" | walk_at "rdi"
          · obtain ⟨x, z, e, xn, xm, z0, z9⟩ := hT.split (i := i) i1 (by rw [namesL_len]; omega)
            rw [namesL_get (by omega)] at e
            have e := Option.some.inj e
            rw [e, List.map_append] at et
            have et : H6 t = some (.tup (x.map V.int ++ [V.int z])) := et
            have xn' : x.map V.int ≠ [] := fun q => xn (by simpa using q)
            repeat first | walk_at "rd" | walk_at "rdi"
            refine r_ixT et (v := .int z) (atI_last _ _) ?_
            repeat first | walk_at "rd" | walk_at "rdi"
            refine ite_d (fun hc => ?_) (fun hc => ?_)
            · repeat first | walk_at "rd" | walk_at "rdi"
              refine r_slT (SqT.of et) (not_whole2 _ _) (fun q H7 nq s7 eq => ?_)
              rw [cut_init] at eq
              have et := s7 _ _ et
              repeat first | walk_at "rd" | walk_at "rdi"
              refine r_ixT et (v := .int z) (atI_last _ _) ?_
              repeat first | walk_at "rd" | walk_at "rdi"
              refine new_at (Nat.le_of_ble_eq_true rfl) (fun v H8 nv s8 ev => ?_)
              have eq := s8 _ _ eq
              refine r_catTN eq ev xn' (by simp) (by
                obtain ⟨zs, ez, hz9, _⟩ := shp i (by omega)
                rw [ez] at e
                have := congrArg List.length e
                simp at this
                simp
                omega) (fun c H9 nc s9 ec => ?_)
              have ec : H9 c = some (.tup ((x ++ [z - 1]).map V.int)) := by rw [ec, List.map_append]; rfl
              have s79 := (s7.trans s8).trans s9
              repeat first | walk_at "rd" | walk_at "rdi"
              refine r_ninT (s79 _ _ eD) (hL.keep s79).in (SqT.of ec) ?_
              rw [decide_eq_true ((hmem _).mpr (hT.sib x z xn (by rw [← e]; exact namesL_in (by omega) (by omega)) (by omega)))]
              repeat first | exact ⟨_, _, rfl, s6.trans s79, s79 _ _ eD, hL.keep s79⟩ | walk_at "rd" | walk_at "rdi"
            · repeat first | exact ⟨_, _, rfl, s6, eD, hL⟩ | walk_at "rd" | walk_at "rdi"
        · rcases Nat.eq_zero_or_pos i with rfl | i1
          · repeat first | walk_at "rd" | walk_at "rdi"
            refine ite_ff (by decide) ?_
            repeat first | exact rest _ _ ⟨rfl, s5, eD5, hL, et⟩ | walk_at "rd" | walk_at "rdi"
          · obtain ⟨x, z, e, xn, xm, z0, z9⟩ := hT.split (i := i) i1 (by rw [namesL_len]; omega)
            rw [namesL_get (by omega)] at e
            have e := Option.some.inj e
            have et' := et
            rw [e, List.map_append] at et
            have et : H5 t = some (.tup (x.map V.int ++ [V.int z])) := et
            repeat first | walk_at "rd" | walk_at "rdi"
            refine ite_tt (by omega) ?_
            repeat first | walk_at "rd" | walk_at "rdi"
            refine r_slT (SqT.of et) (not_whole2 _ _) (fun q H7 nq s7 eq => ?_)
            rw [cut_init] at eq
            repeat first | walk_at "rd" | walk_at "rdi"
            refine r_ninT (s7 _ _ eD5) (hL.keep s7).in (SqT.of eq) ?_
            rw [decide_eq_true ((hmem _).mpr xm)]
            repeat first | exact rest _ _ ⟨rfl, s5.trans s7, s7 _ _ eD5, hL.keep s7, s7 _ _ et'⟩ | walk_at "rd" | walk_at "rdi"
      · rintro σ H4 ⟨v2, v3, rfl, s4, _⟩
        repeat first | exact k _ s4 | walk_at "rd" | walk_at "rdi"
end

/-! ### comprehensions over enumerate(..) -/
theorem en_core {K : PySem.W.Frag} {a : Addr} {xs : List V} {H0 : Hp} (J : It) (Sq : Hp → List V → Prop) (hJ : J = Ite K a ∧ Sq = (fun H ys => SqL K H a ys) ∨ J = IteT K a ∧ Sq = (fun H ys => SqT K H a ys)) (Pv : Nat → Hp → Prop) (h0 : Pv 0 H0) (hl : ∀ i H, i ≤ xs.length → Pv i H → Sq H xs)
    (B : (Hp → Prop) → V → Hp → Prop) (hs : ∀ i x H T H', xs[i]? = some x → Pv i H → H T = none → H' = upd H T (.tup [.int (i : Nat), x]) → B (Pv (i + 1)) (.ref T) H') (E : Hp → Prop) (hd : ∀ H, Pv xs.length H → E H) :
    ∃ W : Nat → Nat → Hp → Prop, (∃ m, W 0 m H0) ∧ ∀ i m H, W i m H → (J.stop i H ∧ E H) ∨ (J.go i H ∧ ∃ Nx : Hp → Prop, (∀ H', Nx H' → ∃ m', m' < m ∧ W (i + 1) m' H') ∧ ∀ x H', J.yld i H x H' → B Nx x H') := by
  refine ⟨fun i m H => m = xs.length - i ∧ i ≤ xs.length ∧ Pv i H, ⟨xs.length, by simp, Nat.zero_le _, h0⟩, ?_⟩
  rintro i m H ⟨rfl, hi, pv⟩
  have sq := hl i H hi pv
  by_cases hlt : i < xs.length
  · have hx : xs[i]? = some xs[i] := List.getElem?_eq_getElem hlt
    have hgo : J.go i H := by
      rcases hJ with ⟨rfl, rfl⟩ | ⟨rfl, rfl⟩
      · exact ⟨xs, _, sq, hx⟩
      · exact ⟨xs, _, sq, hx⟩
    refine .inr ⟨hgo, Pv (i + 1), fun H' q => ⟨xs.length - (i + 1), by omega, rfl, hlt, q⟩, fun x H' y => ?_⟩
    have hy : ∃ T z, x = .ref T ∧ H T = none ∧ H' = upd H T (.tup [.int (i : Nat), z]) ∧ xs[i]? = some z := by
      rcases hJ with ⟨rfl, rfl⟩ | ⟨rfl, rfl⟩
      · obtain ⟨T, z, e1, e2, e3, e4⟩ := y; exact ⟨T, z, e1, e2, e3, e4 xs sq⟩
      · obtain ⟨T, z, e1, e2, e3, e4⟩ := y; exact ⟨T, z, e1, e2, e3, e4 xs sq⟩
    obtain ⟨T, z, rfl, e2, rfl, e4⟩ := hy
    exact hs i z H T _ e4 pv e2 rfl
  · have e : i = xs.length := by omega
    subst e
    refine .inl ⟨?_, hd H pv⟩
    rcases hJ with ⟨rfl, rfl⟩ | ⟨rfl, rfl⟩
    · exact ⟨xs, sq, Nat.le_refl _⟩
    · exact ⟨xs, sq, Nat.le_refl _⟩
theorem r_compEn {K : PySem.W.Frag} {ta : TA} {σ : St} {H : Hp} {p : Addr} {xs : List V} {o : HO} {B : Addr → (Hp → Prop) → V → Hp → Prop} {Qd : Addr → Hp → Prop} (Pv : Addr → Nat → Hp → Prop) (ha : ∀ QA : List V → Hp → Prop, QA [.ref p] H → ta σ H QA) (h : SeqV H p xs)
    (h0 : ∀ D, H D = none → Pv D 0 (upd H D o)) (hk : ∀ D i H', H D = none → Pv D i H' → SeqK H H' p xs)
    (hs : ∀ D i x H1 T H', H D = none → xs[i]? = some x → Pv D i H1 → H1 T = none → H' = upd H1 T (.tup [.int (i : Nat), x]) → B D (Pv D (i + 1)) (.ref T) H') (hd : ∀ D H', H D = none → Pv D xs.length H' → Qd D H') :
    iEnumS K ta σ H fun J H1 => ∀ D, H1 D = none → ∃ W : Nat → Nat → Hp → Prop, (∃ m, W 0 m (upd H1 D o)) ∧ ∀ i m H, W i m H → (J.stop i H ∧ Qd D H) ∨ (J.go i H ∧ ∃ Nx : Hp → Prop, (∀ H', Nx H' → ∃ m', m' < m ∧ W (i + 1) m' H') ∧ ∀ x H', J.yld i H x H' → B D Nx x H') := by
  refine ha _ ⟨p, xs, rfl, ?_⟩
  rcases h with h | h
  · exact .inl ⟨SqL.of h, fun D hD => en_core _ _ (.inl ⟨rfl, rfl⟩) (Pv D) (h0 D hD) (fun i H' _ pv => SqL.of ((hk D i H' hD pv).1 h)) (B D) (fun i x H1 T H' => hs D i x H1 T H' hD) (Qd D) (hd D · hD)⟩
  · exact .inr ⟨SqT.of h, fun D hD => en_core _ _ (.inr ⟨rfl, rfl⟩) (Pv D) (h0 D hD) (fun i H' _ pv => SqT.of ((hk D i H' hD pv).2 h)) (B D) (fun i x H1 T H' => hs D i x H1 T H' hD) (Qd D) (hd D · hD)⟩

/-! ### plan_of -/
theorem r_dcT {wi : TI} {g : TG} {tt : TT} {tk tv : TE} {vs : List Nat} {σ : St} {H : Hp} {Q : VK} (h : wi σ H fun J H1 => ∀ D, H1 D = none → ∃ W : Nat → Nat → Hp → Prop, (∃ m, W 0 m (upd H1 D (.dT []))) ∧ ∀ i m H, W i m H →
  (J.stop i H ∧ Q (.ref D) H) ∨ (J.go i H ∧ ∃ Nx : Hp → Prop, (∀ H', Nx H' → ∃ m', m' < m ∧ W (i + 1) m' H') ∧ ∀ x H', J.yld i H x H' → g x (wipe σ vs) H' fun σ2 H2 => wipe σ2 vs = wipe σ vs ∧ tt σ2 H2 fun b H3 =>
    if b = true then tk σ2 H3 fun y H4 => tv σ2 H4 fun z H5 => ∃ (kvs : List (List L2.Key × V)) (k : List L2.Key) (b' : Addr), y = .ref b' ∧ H5 b' = some (.tup (k.map kV)) ∧ H5 D = some (.dT kvs) ∧ kvs.length < sizeLine ∧ Nx (upd H5 D (.dT (putK kvs k z))) else Nx H3)) : tDcT wi g tt tk tv vs σ H Q := h
def keyN (x : List Int) : List L2.Key := x.map Sum.inl
theorem keyN_kV (x : List Int) : (keyN x).map kV = x.map V.int := by unfold keyN; rw [List.map_map]; rfl
theorem keyN_inj {x y : List Int} (h : keyN x = keyN y) : x = y := by
  have := congrArg (List.map kV) h
  rw [keyN_kV, keyN_kV] at this
  have inj : ∀ {a b : List Int}, a.map V.int = b.map V.int → a = b := fun {a b} => by
    induction a generalizing b with
    | nil => intro h; cases b with
      | nil => rfl
      | cons => cases h
    | cons u a ih => intro h; cases b with
      | nil => cases h
      | cons v b =>
        rw [List.map_cons, List.map_cons, List.cons.injEq] at h
        rw [V.int.inj h.1, ih h.2]
  exact inj this
/-- the dict of the first names -/
def HandsD (kvs : List (List L2.Key × V)) (nm : Int → List Int) (i : Nat) : Prop := kvs.length ≤ i ∧ ∀ j : Nat, j < i → valV kvs (keyN (nm j)) = some (.int (j : Int))
def spPlanOf (M : Addr) : Sp := fun vs H Q _ => ∃ (m p : Addr) (o l g n : Int) (xs : List V) (nm : Int → List Int), vs = [.ref m, .ref p] ∧ MachAt M H m o l g ∧ (0 ≤ o ∧ o ≤ 1000000000) ∧ (0 ≤ l ∧ l ≤ 1000000000) ∧ (1 ≤ g ∧ g ≤ 1000000000) ∧ 0 < 2 * o + l ∧ SeqV H p xs ∧ NmsAt H xs n nm ∧ (1 ≤ n ∧ n ≤ 60) ∧ TreeN (namesL n nm) ∧
  ∀ (q : Addr) (ys : List V) H', Same H H' → H q = none → H' q = some (.lst ys) → TrisAt H' ys (planL (2 * o + l) (gapOf o g) (namesL n nm)) → Q (.ref q) H'
section
variable {P : Program} {w : World} {K : PySem.W.Frag} {mg : Str → Option Value} {base : Heap} {a : Adr}
set_option maxHeartbeats 4000000 in
theorem ok_plan_of (T : Txt K mg base a) : FnOk P w K mg base CX0 8 a.a_plan_of a.d_plan_of ["machine", "names"] (spPlanOf a.c_Machine) := by
  refine T.F_plan_of.ok sc_plan_of (fun vs H Q E h => ?_) (fun cdv A outer s H vs Q E hr h => ?_)
  · obtain ⟨m, p, o, l, g, n, xs, nm, rfl, _⟩ := h
    rfl
  · obtain ⟨m, p, o, l, g, n, xs, nm, rfl, hm, ho, hl, hg, hp, ep, hX, hn, hT, k⟩ := h
    refine ⟨_, (pss_cons (ps_expr (pe_call (ok_check_names T) (hr.mono (by decide)) (by rfl) T.g_check_names T.F_check_names.kp T.b_check_names .nil pass0 (pa_cons (pv 1) pa_nil)))
 (pss_cons (ps_set (i := 2) sc_plan_of.nd rfl (Or.inr rfl) (pe_dcT (u1 hr.units) (own := [("hand", 3), ("name", 4)]) (g := gTup K 2 (gCons (gName 3) (gCons (gName 4) (gNil)))) (tt := tYes) rfl sc_plan_of.nd (pi_enumS (by rfl) T.n_enumerate (pa_cons (pv 1) pa_nil)) (blkOk_by (own := [("hand", 3), ("name", 4)]) (N := ["machine", "names", "hands", "hand", "name"]) (sc := defScope s_plan_of) (by decide +kernel)) (fun _ _ _ _ _ => (pg_tupK (K := K) (n := 2) rfl (by rfl) (pgs_cons (pg_name (i := 3) sc_plan_of.nd rfl (Or.inl rfl)) (pgs_cons (pg_name (i := 4) sc_plan_of.nd rfl (Or.inl rfl)) pgs_nil)))) (fun _ _ _ _ _ => pts_nil) (fun _ _ _ _ _ => (pv 4)) (fun _ _ _ _ _ => (pv 3))))
 (pss_one (ps_ret (pe_lc (own := [("hand", 3), ("name", 4)]) (g := gTup K 2 (gCons (gName 3) (gCons (gName 4) (gNil)))) rfl sc_plan_of.nd (pi_enumS (by rfl) T.n_enumerate (pa_cons (pv 1) pa_nil)) (blkOk_by (own := [("hand", 3), ("name", 4)]) (N := ["machine", "names", "hands", "hand", "name"]) (sc := defScope s_plan_of) (by decide +kernel)) (fun _ _ _ _ _ => (pg_tupK (K := K) (n := 2) rfl (by rfl) (pgs_cons (pg_name (i := 3) sc_plan_of.nd rfl (Or.inl rfl)) (pgs_cons (pg_name (i := 4) sc_plan_of.nd rfl (Or.inl rfl)) pgs_nil)))) (fun _ _ _ _ _ => pts_one (pt_cmpR op_gt (pv 3) pe_int (nomark _))) (fun _ _ _ _ _ => (pe_tup (pa_cons (pe_dget (u1 hr.units) (pv 2) (pe_slice (sl_tupK (K := K) rfl) (pv 4) po_none (po_some (pe_un un_neg pe_int))) (fun _ _ => rfl)) (pa_cons (pv 3) (pa_cons (pe_call (ok_start_of T) (hr.mono (by decide)) (by rfl) T.g_start_of T.F_start_of.kp T.b_start_of .nil pass0 (pa_cons (pv 0) (pa_cons (pv 4) pa_nil))) pa_nil)))))))))), ?_⟩
    have hxl := hX.1
    have shp : ∀ i : Nat, (i : Int) < n → ∃ zs : List Int, nm i = 0 :: zs ∧ zs.length ≤ 199 ∧ ∀ z, z ∈ zs → 0 ≤ z ∧ z ≤ 1000000000000000 := fun i hi => by
      obtain ⟨zs, e1, e2, e3⟩ := hT.shape (nm i) (namesL_in (by omega) hi)
      rw [namesL_len] at e2 e3
      exact ⟨zs, e1, by omega, fun z hz => by have := e3 z hz; omega⟩
    have ninj : ∀ i j : Nat, (i : Int) < n → (j : Int) < n → nm i = nm j → i = j := fun i j hi hj e => nodup_at hT.nodup (namesL_get (n := n) (nm := nm) (i := i) hi) (by rw [e]; exact namesL_get (n := n) (nm := nm) (i := j) hj)
    repeat first | walk_at "rd" | walk_at "rdi"
    refine ⟨p, xs, n, nm, rfl, ep, hX, hn, hT, fun H1 s1 => ?_⟩
    repeat first | walk_at "rd" | walk_at "rdi"
    refine r_dcT ?_
    refine r_compEn (p := p) (xs := xs) (fun D i H' => ∃ kvs, H' D = some (.dT kvs) ∧ Same H1 H' ∧ HandsD kvs nm i) (by intro QA q; (repeat walk_at "rd"); exact q) (ep.keep s1) (fun D nD => ⟨[], upd_same, Same.new nD, Nat.zero_le _, fun j hj => absurd hj (Nat.not_lt_zero j)⟩) (fun D i H' _ ⟨_, _, s, _⟩ => ep.kk s1 (s1.trans s)) ?_ ?_
    · rintro D i x H2 u H3 nD hx ⟨kvs, eD, s2, hk1, hk2⟩ nu rfl
      have hi := (List.getElem?_eq_some_iff.mp hx).1
      obtain ⟨t, et1, et⟩ := (hX.keep (s1.trans s2)).2 i (by omega)
      obtain rfl : V.ref t = x := Option.some.inj (et1.symm.trans hx)
      have s3 : Same H2 (upd H2 u (.tup [.int (i : Nat), .ref t])) := Same.new nu
      have eu : upd H2 u (.tup [.int (i : Nat), .ref t]) u = some (.tup [.int (i : Nat), .ref t]) := upd_same
      have eD3 := (upd_ne (o := HO.tup [.int (i : Nat), .ref t]) (ne_of_none eD nu)).trans eD
      generalize upd H2 u (.tup [.int (i : Nat), .ref t]) = H3 at s3 eu eD3 ⊢
      have et := s3 _ _ et
      repeat walk_at "rd"
      refine ⟨rfl, ?_⟩
      repeat walk_at "rd"
      refine ⟨kvs, keyN (nm i), t, rfl, by rw [keyN_kV]; exact et, eD3, small1000 (by omega), putK kvs (keyN (nm i)) (.int (i : Nat)), upd_same, (s2.trans s3).over nD eD3, Nat.le_trans (length_putK _ _ _) (by omega), fun j hj => ?_⟩
      rw [valV_put]
      by_cases c : j = i
      · subst c; rw [if_pos rfl]
      · rw [if_neg (fun e => c (ninj j i (by omega) (by omega) (keyN_inj e))), hk2 j (by omega)]
    · rintro D H2 nD ⟨kvs, eD, s2, hk1, hk2⟩
      have s12 := s1.trans s2
      repeat first | walk_at "rd" | walk_at "rdi"
      refine r_compEn (p := p) (xs := xs) (fun L i H' => ∃ ys, H' L = some (.lst ys) ∧ Same H2 H' ∧ TrisAt H' ys ((planL (2 * o + l) (gapOf o g) (namesL n nm)).take (i - 1))) (by intro QA q; (repeat walk_at "rd"); exact q) (ep.keep s12) (fun L nL => ⟨[], upd_same, Same.new nL, TrisAt.nil⟩) (fun L i H' _ ⟨_, _, s, _⟩ => ep.kk s12 (s12.trans s)) ?_ ?_
      · rintro L i x H3 u H4 nL hx ⟨ys, eL, s3, hA⟩ nu rfl
        have hi := (List.getElem?_eq_some_iff.mp hx).1
        obtain ⟨t, et1, et⟩ := (hX.keep (s12.trans s3)).2 i (by omega)
        obtain rfl : V.ref t = x := Option.some.inj (et1.symm.trans hx)
        have s4 : Same H3 (upd H3 u (.tup [.int (i : Nat), .ref t])) := Same.new nu
        have eu : upd H3 u (.tup [.int (i : Nat), .ref t]) u = some (.tup [.int (i : Nat), .ref t]) := upd_same
        generalize upd H3 u (.tup [.int (i : Nat), .ref t]) = H4 at s4 eu ⊢
        have et := s4 _ _ et
        have eL := s4 _ _ eL
        have hA := hA.keep s4
        have s34 := s3.trans s4
        have eD := s34 _ _ eD
        repeat walk_at "rd"
        refine ⟨rfl, ?_⟩
        repeat walk_at "rd"
        refine ite_d (fun hc => ?_) (fun hc => ?_)
        · obtain ⟨x, z, e, xn, xm, z0, z9, er⟩ := hT.rowAt (D := 2 * o + l) (G := gapOf o g) (i := i) (by omega) (by rw [namesL_len]; omega)
          have hpos := posOf_get xm
          rw [namesL_len] at hpos
          have exn : nm (posOf x (namesL n nm) : Nat) = x := by
            have := hpos.1
            rw [namesL_get (by omega)] at this
            exact Option.some.inj this
          obtain ⟨zs, ez, hz9, hzb⟩ := shp i (by omega)
          rw [namesL_get (by omega)] at e
          have e := Option.some.inj e
          have et2 := et
          rw [e, List.map_append] at et2
          have et2 : H4 t = some (.tup (x.map V.int ++ [V.int z])) := et2
          repeat walk_at "rd"
          refine r_dget ?_
          repeat walk_at "rd"
          refine r_slT (SqT.of et2) (not_whole2 _ _) (fun q H5 nq s5 eq => ?_)
          rw [cut_init] at eq
          refine ⟨D, .int (posOf x (namesL n nm) : Nat), rfl, .inr ⟨kvs, keyN x, q, .inl (s5 _ _ eD), rfl, by rw [keyN_kV]; exact eq, ?_⟩, ?_⟩
          · rw [← hk2 (posOf x (namesL n nm)) (by omega), exn]
          · have s25 := s34.trans s5
            have et := s5 _ _ et
            repeat walk_at "rd"
            refine ⟨m, t, o, l, g, zs, rfl, hm.keep (s12.trans s25), ho, hl, hg, hp, by rw [et, ez]; rfl, hz9, hzb, fun H6 s6 => ?_⟩
            repeat walk_at "rd"
            refine new_at (Nat.le_of_ble_eq_true rfl) (fun v H7 nv s7 ev => ?_)
            have s57 := (s5.trans s6).trans s7
            have eL := s57 _ _ eL
            have yl := hA.1
            have hlen : (planL (2 * o + l) (gapOf o g) (namesL n nm)).length = xs.length - 1 := by rw [planL_len, namesL_len]; omega
            refine ⟨ys, eL, small1000 (by rw [yl, List.length_take]; omega), ys ++ [V.ref v], upd_same, ((s34.trans s57)).over nL eL, ?_⟩
            have hrow : (planL (2 * o + l) (gapOf o g) (namesL n nm))[i - 1]? = some (rowT (2 * o + l) (gapOf o g) (namesL n nm) i) := by
              rw [planL_get (by rw [namesL_len]; omega), show i - 1 + 1 = i by omega]
            rw [show i + 1 - 1 = (i - 1) + 1 by omega, take_more hrow]
            refine TrisAt.upd (TrisAt.snoc (hA.keep s57) ?_) eL
            rw [ev, er]
            have ht : zs.length * (2 * o + l) + zs.sum * gapOf o g - (2 * o + l) = timeN (2 * o + l) (gapOf o g) x + z * gapOf o g := by
              have := timeN_snoc (D := 2 * o + l) (G := gapOf o g) (z := z) (ns := x)
              rw [← e, ez] at this
              unfold timeN at this ⊢
              rw [List.length_cons, List.sum_cons, Int.zero_add, show (((zs.length + 1 : Nat) : Int) - 1) = zs.length by omega] at this
              omega
            rw [ht]
            rfl
        · obtain rfl : i = 0 := by omega
          exact ⟨ys, eL, s34, hA⟩
      · rintro L H3 nL ⟨ys, eL, s3, hA⟩
        rw [List.take_of_length_le (by rw [planL_len, namesL_len]; omega)] at hA
        exact k L ys H3 (s12.trans s3) (s12.free nL) eL hA
end

/-! ### lists of tuples of ints, as data -/
theorem room65 {k : Nat} {A : Around} (hr : Room k A) : A.units + 65 < cLine := by have := hr.un; omega
def RefsN (H : Hp) (xs : List V) (ms : List (List Int)) : Prop := xs.length = ms.length ∧ ∀ (i : Nat) x, ms[i]? = some x → ∃ t : Addr, xs[i]? = some (.ref t) ∧ H t = some (.tup (x.map V.int))
theorem RefsN.keep {H H' : Hp} {xs : List V} {ms : List (List Int)} (h : RefsN H xs ms) (s : Same H H') : RefsN H' xs ms := ⟨h.1, fun i x hx => let ⟨t, e, z⟩ := h.2 i x hx; ⟨t, e, s _ _ z⟩⟩
theorem RefsN.upd {H : Hp} {D : Addr} {zs : List V} {o : HO} {xs : List V} {ms : List (List Int)} (h : RefsN H xs ms) (e : H D = some (.lst zs)) : RefsN (L2.upd H D o) xs ms := ⟨h.1, fun i x hx => let ⟨t, e1, z⟩ := h.2 i x hx; ⟨t, e1, (upd_ne (fun q => by rw [q, e] at z; cases z)).trans z⟩⟩
theorem RefsN.but {H H' : Hp} {p q : Addr} {xs : List V} {ms : List (List Int)} (h : RefsN H xs ms) (hs : SrcAt H p q) (b : But p H H') : RefsN H' xs ms := ⟨h.1, fun i x hx => let ⟨t, e1, z⟩ := h.2 i x hx; ⟨t, e1, tup_but z hs b⟩⟩
theorem RefsN.cons {H : Hp} {v : V} {xs : List V} {m : List Int} {ms : List (List Int)} (h : RefsN H (v :: xs) (m :: ms)) : (∃ t : Addr, v = .ref t ∧ H t = some (.tup (m.map V.int))) ∧ RefsN H xs ms := by
  obtain ⟨t, e, z⟩ := h.2 0 m rfl
  exact ⟨⟨t, Option.some.inj e, z⟩, Nat.succ.inj h.1, fun i x hx => h.2 (i + 1) x hx⟩
theorem NmsAt.refsN {H : Hp} {ys : List V} {n : Int} {nm : Int → List Int} (h : NmsAt H ys n nm) : RefsN H ys (namesL n nm) := ⟨by rw [namesL_len]; have := h.1; omega, fun i x hx => by
  have hi := (List.getElem?_eq_some_iff.mp hx).1
  rw [namesL_len] at hi
  rw [namesL_get (by omega)] at hx
  obtain ⟨t, e, z⟩ := h.2 i (by omega)
  exact ⟨t, e, by rw [← Option.some.inj hx]; exact z⟩⟩
theorem RefsN.nms {H : Hp} {xs : List V} {ms : List (List Int)} (h : RefsN H xs ms) : NmsAt H xs ms.length (fun i => nAt ms i.toNat) := ⟨by rw [h.1], fun i hi => by
  have e : ms[i]? = some ms[i] := List.getElem?_eq_getElem (by omega)
  obtain ⟨t, e1, z⟩ := h.2 i _ e
  refine ⟨t, e1, ?_⟩
  dsimp only
  rw [Int.toNat_natCast, nAt_of e]
  exact z⟩
theorem namesL_nAt (ms : List (List Int)) : namesL ms.length (fun i => nAt ms i.toNat) = ms := by
  refine List.ext_getElem? fun i => ?_
  by_cases c : i < ms.length
  · rw [namesL_get (by omega), Int.toNat_natCast, nAt_of (List.getElem?_eq_getElem c), List.getElem?_eq_getElem c]
  · rw [List.getElem?_eq_none (by rw [namesL_len]; omega), List.getElem?_eq_none (by omega)]
def tupD (x : List Int) : PyData := .tuple (x.map PyData.int)
theorem RefsN.dp {K : PySem.W.Frag} {H : Hp} : ∀ {xs : List V} {ms : List (List Int)}, RefsN H xs ms → DpAll K H xs (ms.map tupD)
  | [], [], _ => .nil
  | [], m :: ms, h => absurd h.1 (by simp)
  | v :: xs, [], h => absurd h.1 (by simp)
  | v :: xs, m :: ms, h => by
    obtain ⟨⟨t, rfl, et⟩, h'⟩ := h.cons
    exact .cons (.tup (SqT.of et) (dp_ints m)) h'.dp
theorem lay_tups : ∀ ms : List (List Int), PyData.canLayAll0 (ms.map tupD) = true
  | [] => rfl
  | m :: ms => by
    show (PyData.canLay0 (tupD m) && PyData.canLayAll0 (ms.map tupD)) = true
    rw [lay_tups ms, show PyData.canLay0 (tupD m) = true from lay_ints m]; rfl
theorem dep_tups : ∀ ms : List (List Int), PyData.depthAll (ms.map tupD) ≤ 3
  | [] => by decide
  | m :: ms => by
    have h1 := dep_tups ms
    have h2 := dep_ints m
    show max (PyData.depth (tupD m)) (PyData.depthAll (ms.map tupD)) ≤ 3
    have h : PyData.depth (tupD m) ≤ 3 := by
      show PyData.depthAll (m.map PyData.int) + 1 ≤ 3
      omega
    exact Nat.max_le.mpr ⟨h, h1⟩
theorem sh_tups (ms : List (List Int)) : SeqAt.shaped (.list (ms.map tupD)) = true := by
  have h1 := lay_tups ms
  have h2 := dep_tups ms
  have h3 : (PyData.list (ms.map tupD)).depth ≤ 64 := by
    show PyData.depthAll (ms.map tupD) + 1 ≤ 64
    omega
  show (PyData.canLayAll0 (ms.map tupD) && decide ((PyData.list (ms.map tupD)).depth ≤ 64)) = true
  rw [h1, decide_eq_true h3]; rfl
theorem eqv_tupD (x y : List Int) : PyData.eqv (tupD x) (tupD y) = decide (x = y) := by
  unfold tupD
  simp only [PyData.eqv]
  exact eq_ints
theorem eqv_tups : ∀ ms : List (List Int), PyData.eqvAll (ms.map tupD) (ms.map tupD) = true
  | [] => by simp [PyData.eqvAll]
  | m :: ms => by
    rw [List.map_cons]
    simp only [PyData.eqvAll]
    rw [eqv_tupD, decide_eq_true rfl, eqv_tups ms]; rfl
/-- the place of a tuple in a list of them -/
theorem r_indexT {K : PySem.W.Frag} {H : Hp} {Q : VK} {a b : Addr} {xs : List V} {ms : List (List Int)} {x : List Int} (ea : H a = some (.lst xs)) (h : RefsN H xs ms) (eb : H b = some (.tup (x.map V.int))) (hx : x ∈ ms) (q : Q (.int (posOf x ms : Nat)) H) : rIndexD K (.ref a) [.ref b] H Q := by
  have p := posOf_get hx
  refine ⟨a, .ref b, tupD x, ms.map tupD, posOf x ms, tupD x, rfl, rfl, .lst (SqL.of ea) h.dp, .tup (SqT.of eb) (dp_ints x), sh_tups ms, sh_tints x, by rw [List.getElem?_map, p.1]; rfl, by rw [eqv_tupD]; exact decide_eq_true rfl, fun m z' hm hz => ?_, q⟩
  rw [List.getElem?_map] at hz
  cases e : ms[m]? with
  | none => rw [e] at hz; cases hz
  | some y =>
    rw [e] at hz
    rw [← Option.some.inj hz, eqv_tupD]
    refine decide_eq_false fun ey => p.2.2 m hm ?_
    rw [e, ey]
theorem r_neTups {K : PySem.W.Frag} {H : Hp} {Q : VK} {a b : Addr} {xs ys : List V} {ms : List (List Int)} (ea : H a = some (.lst xs)) (hx : RefsN H xs ms) (eb : H b = some (.lst ys)) (hy : RefsN H ys ms) (q : Q (.bl false) H) : rNeD K (.ref a) (.ref b) H Q := by
  refine ⟨.list (ms.map tupD), .list (ms.map tupD), .lst (SqL.of ea) hx.dp, .lst (SqL.of eb) hy.dp, sh_tups ms, sh_tups ms, ?_⟩
  have e : PyData.eqv (.list (ms.map tupD)) (.list (ms.map tupD)) = true := by simp only [PyData.eqv]; exact eqv_tups ms
  rw [e]
  exact q
/-! rows, sorted by their receivers -/
def swapL (l : L3) : List Int := [l.2.1, l.1, l.2.2]
theorem TrisAt.refsN {H : Hp} {xs : List V} {rs : List L3} (h : TrisAt H xs rs) : RefsN H xs (rs.map fun l => [l.1, l.2.1, l.2.2]) := ⟨by rw [List.length_map]; exact h.1, fun i x hx => by
  rw [List.getElem?_map] at hx
  cases e : rs[i]? with
  | none => rw [e] at hx; cases hx
  | some l =>
    rw [e] at hx
    obtain ⟨t, e1, z⟩ := h.2 i l e
    exact ⟨t, e1, by rw [← Option.some.inj hx]; exact z⟩⟩
/-- the plan's rows with the receiver first stand in order: any sorted row of them is this one -/
theorem sorted_swap {D G : Int} {ns : List (List Int)} {us : List L3} (hu : (us.map swapL).Perm ((planL D G ns).map swapL)) (hs : us.Pairwise fun l m => l.2.1 ≤ m.2.1) : us.map swapL = (planL D G ns).map swapL := by
  have nd : ((planL D G ns).map swapL).Pairwise fun x y => x.headD 0 < y.headD 0 := by
    unfold planL
    rw [List.pairwise_map, List.pairwise_map]
    exact List.pairwise_lt_range.imp fun {i j} h => by
      show ((i + 1 : Nat) : Int) < ((j + 1 : Nat) : Int)
      omega
  have s1 : (us.map swapL).Pairwise fun x y => x.headD 0 ≤ y.headD 0 := by
    rw [List.pairwise_map]
    exact hs
  have uq : ∀ x y, x ∈ (planL D G ns).map swapL → y ∈ (planL D G ns).map swapL → x.headD 0 = y.headD 0 → x = y := fun x y hx hy e => by
    obtain ⟨i, hi⟩ := List.mem_iff_getElem?.mp hx
    obtain ⟨j, hj⟩ := List.mem_iff_getElem?.mp hy
    obtain ⟨i1, i2⟩ := List.getElem?_eq_some_iff.mp hi
    obtain ⟨j1, j2⟩ := List.getElem?_eq_some_iff.mp hj
    rw [List.pairwise_iff_getElem] at nd
    rcases Nat.lt_trichotomy i j with c | c | c
    · have := nd i j i1 j1 c; rw [i2, j2] at this; omega
    · subst c; rw [← i2, ← j2]
    · have := nd j i j1 i1 c; rw [i2, j2] at this; omega
  exact List.Perm.eq_of_pairwise (le := fun x y => x.headD 0 ≤ y.headD 0) (fun x y hx hy h1 h2 => uq x y (hu.mem_iff.mp hx) hy (by omega)) s1 (nd.imp fun h => by omega) hu

/-! ### the law of k29 -/
theorem TrisAt.flat {H : Hp} {xs : List V} {rs : List L3} (h : TrisAt H xs rs) : ∀ v, v ∈ xs → flatB v = true ∨ ∃ p, v = .ref p := fun v hv => by
  obtain ⟨t, l, e, _, _⟩ := h.mem hv
  exact .inr ⟨t, e⟩
theorem NmsAt.flat {H : Hp} {xs : List V} {n : Int} {nm : Int → List Int} (h : NmsAt H xs n nm) : ∀ v, v ∈ xs → flatB v = true ∨ ∃ p, v = .ref p := fun v hv => by
  obtain ⟨i, hi⟩ := List.mem_iff_getElem?.mp hv
  have := (List.getElem?_eq_some_iff.mp hi).1
  obtain ⟨t, e, _⟩ := h.2 i (by have := h.1; omega)
  exact .inr ⟨t, Option.some.inj (hi.symm.trans e)⟩
theorem r_tupS {K : PySem.W.Frag} {H : Hp} {Q : VK} {a : Addr} {xs : List V} (h : SqL K H a xs) (q : ∀ p H', H p = none → Same H H' → H' p = some (.tup xs) → Q (.ref p) H') : rTupOf K [.ref a] H Q := ⟨a, xs, rfl, .inl ⟨h, new_of q⟩⟩
theorem r_isiTu2 {K : PySem.W.Frag} {H : Hp} {Q : VK} {p : Addr} {xs : List V} {n : String} (b : Bool) (h : H p = some (.tup xs)) (hk : kitB "tuple" n = some b) (q : Q (.bl b) H) : rIsi K [.ref p, .ty n] H Q := r_isi (.base (.tup h)) (kit_ty hk) q
theorem r_Bm029 {K : PySem.W.Frag} {T : String} {r : V → List V → Hp → VK → Prop} {ta : TE} {σ : St} {H : Hp} {Q : VK} (h : ta σ H fun x H1 => tyV K T x H1 ∧ r x [] H1 Q) : tBM0 K T r ta σ H Q := h
theorem RefsN.ins {H : Hp} {xs : List V} {ms : List (List Int)} {k : Nat} {t : Addr} {y : List Int} (h : RefsN H xs ms) (hk : k ≤ ms.length) (et : H t = some (.tup (y.map V.int))) : RefsN H (xs.take k ++ [.ref t] ++ xs.drop k) (ms.take k ++ [y] ++ ms.drop k) := by
  have hl := h.1
  refine ⟨by simp [hl], fun i x hx => ?_⟩
  rw [List.append_assoc] at hx ⊢
  by_cases c : i < k
  · rw [List.getElem?_append_left (by rw [List.length_take]; omega), List.getElem?_take, if_pos c] at hx ⊢
    exact h.2 i x hx
  · rw [List.getElem?_append_right (by rw [List.length_take]; omega), List.length_take, Nat.min_eq_left (by omega)] at hx ⊢
    by_cases d : i = k
    · subst d
      rw [Nat.sub_self] at hx ⊢
      exact ⟨t, rfl, by rw [← Option.some.inj hx]; exact et⟩
    · obtain ⟨e, he⟩ : ∃ e, i - k = e + 1 := ⟨i - k - 1, by omega⟩
      rw [he] at hx ⊢
      have hx : (ms.drop k)[e]? = some x := hx
      rw [List.getElem?_drop] at hx
      obtain ⟨t9, e9, z9⟩ := h.2 _ x hx
      exact ⟨t9, by show (xs.drop k)[e]? = _; rw [List.getElem?_drop]; exact e9, z9⟩
theorem TreeN.start29 {D G : Int} {ns : List (List Int)} (h : TreeN ns) (hD : 0 ≤ D ∧ D ≤ 3000000000) (hG : 0 ≤ G ∧ G ≤ 1000000000) (hn : ns.length ≤ 60) {l : L3} (hl : l ∈ planL D G ns) : 0 ≤ l.2.2 ∧ l.2.2 ≤ 1000000000000000 := by
  obtain ⟨i, x, z, i1, hi, e, a, b, c, d, rfl⟩ := h.mem_plan hl
  have t0 := h.time0 (D := D) (G := G) hD.1 hG.1 b
  obtain ⟨zs, rfl, z1, z2⟩ := h.shape x b
  have hs : ∀ us : List Int, (∀ u, u ∈ us → 0 ≤ u ∧ u ≤ 60) → 0 ≤ us.sum ∧ us.sum ≤ us.length * 60 := fun us => by
    induction us with
    | nil => intro _; exact ⟨Int.le_refl _, by simp⟩
    | cons u us ih =>
      intro hu
      obtain ⟨i1, i2⟩ := ih fun v hv => hu v (List.mem_cons_of_mem _ hv)
      have := hu u (List.mem_cons_self ..)
      rw [List.sum_cons, List.length_cons]
      omega
  have h1 := hs zs fun u hu => by have := z2 u hu; omega
  have m1 : (zs.length : Int) * D ≤ 60 * 3000000000 := Int.mul_le_mul (by omega) hD.2 hD.1 (by decide)
  have m2 : zs.sum * G ≤ 3600 * 1000000000 := Int.mul_le_mul (by omega) hG.2 hG.1 (by decide)
  have m3 : z * G ≤ 60 * 1000000000 := Int.mul_le_mul (by omega) hG.2 hG.1 (by decide)
  have m4 : 0 ≤ z * G := Int.mul_nonneg c hG.1
  unfold timeN at t0 ⊢
  rw [List.length_cons, List.sum_cons, Int.zero_add, show (((zs.length + 1 : Nat) : Int) - 1) = zs.length by omega] at t0 ⊢
  dsimp only
  omega
theorem Bt.upd29 {M p q m D : Addr} {o l g : Int} {H : Hp} {zs ys : List V} (h : Bt M p q m o l g H) (e : H D = some (.lst zs)) (n1 : D ≠ p) (n2 : D ≠ q) : Bt M p q m o l g (L2.upd H D (.lst ys)) := ⟨h.hs.upd n1 n2, h.hm.upd e, tabs_upd e rfl h.ht⟩
structure W29 (M p q m : Addr) (o l g n : Int) (R N U : Addr) (xs ns us : List V) (rs es : List L3) (nm : Int → List Int) (H : Hp) : Prop where
  B : Bt M p q m o l g H
  eR : H R = some (.lst xs)
  hA : TrisAt H xs rs
  eN : H N = some (.lst ns)
  hN : NmsAt H ns n nm
  eU : H U = some (.lst us)
  hU : TrisAt H us es
theorem W29.keep {M p q m : Addr} {o l g n : Int} {R N U : Addr} {xs ns us : List V} {rs es : List L3} {nm : Int → List Int} {H H' : Hp} (h : W29 M p q m o l g n R N U xs ns us rs es nm H) (s : Same H H') : W29 M p q m o l g n R N U xs ns us rs es nm H' := ⟨h.B.keep s, s _ _ h.eR, h.hA.keep s, s _ _ h.eN, h.hN.keep s, s _ _ h.eU, h.hU.keep s⟩
theorem swap_bd {D G : Int} {n : Int} {rs : List L3} (hQ : RightQ D G n rs) (hn : n ≤ 100) (hs : ∀ l, l ∈ rs → 0 ≤ l.2.2 ∧ l.2.2 < 10000000000000000) {l : L3} (hl : l ∈ rs) : TS.Bd 10000000000000000 (swapL l) := fun x hx => by
  have hh := hQ.hands l hl
  have h2 := hs l hl
  have hm : x = l.2.1 ∨ x = l.1 ∨ x = l.2.2 := by simpa [swapL] using hx
  rcases hm with rfl | rfl | rfl <;> omega
def rotS (l : L3) : L3 := (l.2.1, l.1, l.2.2)
theorem rotS_rotS (l : L3) : rotS (rotS l) = l := rfl
section
variable {P : Program} {w : World} {K : PySem.W.Frag} {mg : Str → Option Value} {base : Heap} {a : Adr}
set_option maxHeartbeats 0 in
theorem ok_law (T : Txt K mg base a) : FnOk P w K mg base CX0 12 a.a_law a.d_law ["_law_script"] (spLawT (spLaw K)) := by
  refine T.F_law.ok sc_law (fun vs H Q E h => ?_) (fun cdv A0 outer s H vs Q E hr h => ?_)
  · obtain ⟨_, b, ns, rfl, _⟩ := h
    rfl
  · obtain ⟨hT, b, ns, rfl, hS, hn, k⟩ := h
    refine ⟨_, (pss_cons (ps_set (i := 1) sc_law.nd rfl (Or.inl rfl) (pe_call (ok__law_source T) (hr.mono (by decide)) (by rfl) T.g__law_source T.F__law_source.kp T.b__law_source .nil pass0 (pa_cons (pv 0) pa_nil)))
 (pss_cons (ps_set (i := 2) sc_law.nd rfl (Or.inl rfl) (pe_call (ok__law_numbers T) (hr.mono (by decide)) (by rfl) T.g__law_numbers T.F__law_numbers.kp T.b__law_numbers .nil pass0 (pa_cons (pv 1) pa_nil)))
 (pss_cons (ps_asg (pe_call (ok__law_times T) (hr.mono (by decide)) (by rfl) T.g__law_times T.F__law_times.kp T.b__law_times .nil pass0 (pa_cons (pv 2) pa_nil)) (pg_tup (by rfl) (pgs_cons (pg_name (i := 3) sc_law.nd rfl (Or.inl rfl)) (pgs_cons (pg_name (i := 4) sc_law.nd rfl (Or.inl rfl)) pgs_nil))))
 (pss_cons (ps_set (i := 5) sc_law.nd rfl (Or.inl rfl) (pe_make T.mk_Machine (ok_Machine_init T) (hr.mono (by decide)) (by rfl) T.g_Machine T.b_Machine_init .nil pass0 (pa_cons (pe_ix ix_tup (pv 2) pe_int (fun _ _ => rfl)) (pa_cons (pe_ix ix_tup (pv 2) pe_int (fun _ _ => rfl)) (pa_cons (pe_ix ix_tup (pv 2) pe_int (fun _ _ => rfl)) pa_nil)))))
 (pss_cons (ps_for (by exact PassesOwn.never) rfl (pi_range1 (by rfl) T.n_range (pa_cons pe_int pa_nil)) (pg_name (i := 6) sc_law.nd rfl (Or.inl rfl))
 (pss_cons (ps_set (i := 7) sc_law.nd rfl (Or.inl rfl) (pe_op op_add pe_int (pe_call (ok__law_draw T) (hr.mono (by decide)) (by rfl) T.g__law_draw T.F__law_draw.kp T.b__law_draw .nil pass0 (pa_cons (pv 1) (pa_cons (pe_ix ix_list (pe_lst (pa_cons pe_int (pa_cons pe_int (pa_cons pe_int pa_nil)))) (pv 6) (fun _ _ => rfl)) pa_nil)))))
 (pss_cons (ps_set (i := 8) sc_law.nd rfl (Or.inl rfl) (pe_call (ok__law_plan T) (hr.mono (by decide)) (by rfl) T.g__law_plan T.F__law_plan.kp T.b__law_plan .nil pass0 (pa_cons (pv 1) (pa_cons (pv 3) (pa_cons (pv 4) (pa_cons (pv 7) (pa_cons (pe_ix ix_list (pe_lst (pa_cons pe_int (pa_cons pe_int (pa_cons pe_int pa_nil)))) (pe_call (ok__law_draw T) (hr.mono (by decide)) (by rfl) T.g__law_draw T.F__law_draw.kp T.b__law_draw .nil pass0 (pa_cons (pv 1) (pa_cons pe_int pa_nil))) (fun _ _ => rfl)) pa_nil)))))))
 (pss_cons (ps_set (i := 9) sc_law.nd rfl (Or.inl rfl) (pe_call (ok__law_called T) (hr.mono (by decide)) (by rfl) T.g__law_called T.F__law_called.kp T.b__law_called .nil pass0 (pa_cons (pv 7) (pa_cons (pv 8) pa_nil))))
 (pss_cons (ps_set (i := 10) sc_law.nd rfl (Or.inl rfl) (pe_lst pa_nil))
 (pss_cons (ps_for (by exact PassesOwn.never) rfl (pi_range2 (by rfl) T.n_range (pa_cons pe_int (pa_cons (pv 7) pa_nil))) (pg_name (i := 11) sc_law.nd rfl (Or.inl rfl))
 (pss_cons (ps_set (i := 12) sc_law.nd rfl (Or.inl rfl) (pe_ix ix_list (pv 9) (pv 11) (fun _ _ => rfl)))
 (pss_one (ps_expr (pe_bm PySem.F.plainAttrs_list PySem.F.slot_list_append PySem.F.type_list_append mt_append (pv 10) (pa_cons (pe_tup (pa_cons (pe_bm PySem.F.plainAttrs_list PySem.F.slot_list_index PySem.F.type_list_index (mt_indexD (room65 hr)) (pv 9) (pa_cons (pe_slice sl_tup (pv 12) po_none (po_some (pe_un un_neg pe_int))) pa_nil)) (pa_cons (pv 11) (pa_cons (pe_op op_add (pe_op op_mul (pe_op op_sub (pe_callB call_len_seq (by rfl) T.n_len (by decide +kernel) (pa_cons (pv 12) pa_nil)) pe_int) (pv 3)) (pe_op op_mul (pe_callB (cr_sumT rfl) (by rfl) T.n_sum (by decide +kernel) (pa_cons (pv 12) pa_nil)) (pv 4))) pa_nil)))) pa_nil))))))
 (pss_cons (ps_set (i := 13) sc_law.nd rfl (Or.inl rfl) (pe_callTy cr_list (by rfl) T.n_list (by decide +kernel) (pa_cons (pv 9) pa_nil)))
 (pss_cons (ps_set (i := 14) sc_law.nd rfl (Or.inl rfl) (pe_call (ok_plan_of T) (hr.mono (by decide)) (by rfl) T.g_plan_of T.F_plan_of.kp T.b_plan_of .nil pass0 (pa_cons (pv 5) (pa_cons (pv 13) pa_nil))))
 (pss_cons (ps_if (PW.pt (pw_or (pt_cmpR (op_neSame hr.units) (pv 13) (pv 9) (nomark _)) (pw_or1 (pt_not (pt_val (pe_call (ok__law_same_rows T) (hr.mono (by decide)) (by rfl) T.g__law_same_rows T.F__law_same_rows.kp T.b__law_same_rows .nil pass0 (pa_cons (pv 14) (pa_cons (pv 10) pa_nil)))))))) (pss_one (ps_ret pe_bl))
 pss_nil)
 (pss_cons (ps_if (pt_cmpR op_notNo (pe_call (ok_fault T) (hr.mono (by decide)) (by rfl) T.g_fault T.F_fault.kp T.b_fault .nil pass0 (pa_cons (pv 5) (pa_cons (pv 7) (pa_cons (pe_callTy cr_list (by rfl) T.n_list (by decide +kernel) (pa_cons (pv 10) pa_nil)) pa_nil)))) pe_non (nomark _)) (pss_one (ps_ret pe_bl))
 pss_nil)
 (pss_cons (ps_if (pt_not (pt_val (pe_call (ok__law_same_names T) (hr.mono (by decide)) (by rfl) T.g__law_same_names T.F__law_same_names.kp T.b__law_same_names .nil pass0 (pa_cons (pe_call (ok_names_of T) (hr.mono (by decide)) (by rfl) T.g_names_of T.F_names_of.kp T.b_names_of .nil pass0 (pa_cons (pv 5) (pa_cons (pv 7) (pa_cons (pe_callTy cr_list (by rfl) T.n_list (by decide +kernel) (pa_cons (pv 10) pa_nil)) pa_nil)))) (pa_cons (pv 9) pa_nil))))) (pss_one (ps_ret pe_bl))
 pss_nil)
 (pss_cons (ps_set (i := 15) sc_law.nd rfl (Or.inl rfl) (pe_call (ok_earliest T) (hr.mono (by decide)) (by rfl) T.g_earliest T.F_earliest.kp T.b_earliest .nil pass0 (pa_cons (pv 5) (pa_cons (pv 7) (pa_cons (pe_callTy cr_list (by rfl) T.n_list (by decide +kernel) (pa_cons (pv 8) pa_nil)) pa_nil)))))
 (pss_cons (ps_if (PW.pt (pw_or (pt_not (pt_val (pe_callB call_isi (by rfl) T.n_isinstance (by decide +kernel) (pa_cons (pv 15) (pa_cons (pe_bltn (v := .ty "list") (u := .type "list") (by rfl) T.n_list (by decide +kernel) rfl) pa_nil))))) (pw_or1 (pt_not (pt_val (pe_callB (cr_all rfl) (by rfl) T.n_all (by decide +kernel) (pa_cons (pe_lc (own := [("_law_row", 17)]) (g := gName 17) (tt := tYes) rfl sc_law.nd (pi_list (pv 15)) (blkOk_by (own := [("_law_row", 17)]) (N := ["_law_script", "_law_source_here", "_law_numbers_here", "_law_letter", "_law_gap", "_law_machine", "_law_k", "_law_n", "_law_rows", "_law_names", "_law_due", "_law_hand", "_law_name", "_law_passed", "_law_plan_here", "_law_early", "_law_mixed", "_law_row"]) (sc := defScope s_law) (by decide +kernel)) (fun _ _ _ _ _ => (pg_name (i := 17) sc_law.nd rfl (Or.inl rfl))) (fun _ _ _ _ _ => pts_nil) (fun _ _ _ _ _ => (pe_and (pe_callB (call_isiK (K := K) rfl) (by rfl) T.n_isinstance (by decide +kernel) (pa_cons (pv 17) (pa_cons (pe_bltn (v := .ty "tuple") (u := .type "tuple") (by rfl) T.n_tuple (by decide +kernel) rfl) pa_nil))) (pe_one (pe_cmpR op_eq (pe_callB (call_len_seqK (K := K) rfl) (by rfl) T.n_len (by decide +kernel) (pa_cons (pv 17) pa_nil)) pe_int (nomark _)))))) pa_nil))))))) (pss_one (ps_ret pe_bl))
 pss_nil)
 (pss_cons (ps_if (pt_cmpR (op_neD hr.units) (pe_callB (cr_sortT (d := 3) (B := 10000000000000000) (by decide)) (by rfl) T.n_sorted (by decide +kernel) (pa_cons (pe_lc (own := [("_law_row", 17)]) (g := gName 17) (tt := tYes) rfl sc_law.nd (pi_list (pv 15)) (blkOk_by (own := [("_law_row", 17)]) (N := ["_law_script", "_law_source_here", "_law_numbers_here", "_law_letter", "_law_gap", "_law_machine", "_law_k", "_law_n", "_law_rows", "_law_names", "_law_due", "_law_hand", "_law_name", "_law_passed", "_law_plan_here", "_law_early", "_law_mixed", "_law_row"]) (sc := defScope s_law) (by decide +kernel)) (fun _ _ _ _ _ => (pg_name (i := 17) sc_law.nd rfl (Or.inl rfl))) (fun _ _ _ _ _ => pts_nil) (fun _ _ _ _ _ => (pe_tup (pa_cons (pe_ix (ix_tupK (K := K) rfl) (pv 17) pe_int (fun _ _ => rfl)) (pa_cons (pe_ix (ix_tupK (K := K) rfl) (pv 17) pe_int (fun _ _ => rfl)) (pa_cons (pe_ix (ix_tupK (K := K) rfl) (pv 17) pe_int (fun _ _ => rfl)) pa_nil)))))) pa_nil)) (pe_lc (own := [("_law_row", 17)]) (g := gName 17) (tt := tYes) rfl sc_law.nd (pi_list (pv 10)) (blkOk_by (own := [("_law_row", 17)]) (N := ["_law_script", "_law_source_here", "_law_numbers_here", "_law_letter", "_law_gap", "_law_machine", "_law_k", "_law_n", "_law_rows", "_law_names", "_law_due", "_law_hand", "_law_name", "_law_passed", "_law_plan_here", "_law_early", "_law_mixed", "_law_row"]) (sc := defScope s_law) (by decide +kernel)) (fun _ _ _ _ _ => (pg_name (i := 17) sc_law.nd rfl (Or.inl rfl))) (fun _ _ _ _ _ => pts_nil) (fun _ _ _ _ _ => (pe_tup (pa_cons (pe_ix (ix_tupK (K := K) rfl) (pv 17) pe_int (fun _ _ => rfl)) (pa_cons (pe_ix (ix_tupK (K := K) rfl) (pv 17) pe_int (fun _ _ => rfl)) (pa_cons (pe_ix (ix_tupK (K := K) rfl) (pv 17) pe_int (fun _ _ => rfl)) pa_nil)))))) (nomark _)) (pss_one (ps_ret pe_bl))
 pss_nil)
 (pss_cons (ps_expr (pe_bm0 PySem.F.plainAttrs_list PySem.F.slot_list_clear PySem.F.type_list_clear mt_clear (pv 14)))
 (pss_cons (ps_if (pt_not (pt_val (pe_call (ok__law_same_rows T) (hr.mono (by decide)) (by rfl) T.g__law_same_rows T.F__law_same_rows.kp T.b__law_same_rows .nil pass0 (pa_cons (pe_call (ok_plan_of T) (hr.mono (by decide)) (by rfl) T.g_plan_of T.F_plan_of.kp T.b_plan_of .nil pass0 (pa_cons (pv 5) (pa_cons (pe_callTy cr_tup (by rfl) T.n_tuple (by decide +kernel) (pa_cons (pv 9) pa_nil)) pa_nil))) (pa_cons (pv 10) pa_nil))))) (pss_one (ps_ret pe_bl))
 pss_nil)
 (pss_one (ps_if (pt_cmpR op_gt (pv 7) pe_int (nomark _)) (pss_cons (ps_set (i := 16) sc_law.nd rfl (Or.inl rfl) (pe_lst (pa_cons (pe_ix ix_list (pv 9) pe_int (fun _ _ => rfl)) pa_nil)))
 (pss_cons (ps_for (by exact PassesOwn.never) rfl (pi_list (pe_slice sl_list (pv 9) (po_some pe_int) po_none)) (pg_name (i := 12) sc_law.nd rfl (Or.inl rfl))
 (pss_one (ps_expr (pe_bm PySem.F.plainAttrs_list PySem.F.slot_list_insert PySem.F.type_list_insert mt_insert (pv 16) (pa_cons (pe_op op_add pe_int (pe_call (ok__law_draw T) (hr.mono (by decide)) (by rfl) T.g__law_draw T.F__law_draw.kp T.b__law_draw .nil pass0 (pa_cons (pv 1) (pa_cons (pe_callB call_len_seq (by rfl) T.n_len (by decide +kernel) (pa_cons (pv 16) pa_nil)) pa_nil)))) (pa_cons (pv 12) pa_nil))))))
 (pss_one (ps_if (pt_not (pt_val (pe_call (ok__law_same_names T) (hr.mono (by decide)) (by rfl) T.g__law_same_names T.F__law_same_names.kp T.b__law_same_names .nil pass0 (pa_cons (pe_call (ok_names_of T) (hr.mono (by decide)) (by rfl) T.g_names_of T.F_names_of.kp T.b_names_of .nil pass0 (pa_cons (pv 5) (pa_cons (pv 7) (pa_cons (pe_call (ok_plan_of T) (hr.mono (by decide)) (by rfl) T.g_plan_of T.F_plan_of.kp T.b_plan_of .nil pass0 (pa_cons (pv 5) (pa_cons (pe_callTy cr_list (by rfl) T.n_list (by decide +kernel) (pa_cons (pv 16) pa_nil)) pa_nil))) pa_nil)))) (pa_cons (pv 16) pa_nil))))) (pss_one (ps_ret pe_bl))
 pss_nil))))
 pss_nil))))))))))))))))))
 (pss_one (ps_ret pe_bl))))))), ?_⟩
    repeat walk_at "rd"
    refine ⟨b, ns, rfl, hS, hn, fun p q H1 hs1 np nq s1 => ?_⟩
    repeat walk_at "rd"
    refine ⟨p, q, rfl, hs1, fun t o l g H2 hN nt hs2 b2 => ?_⟩
    have ht := hN.at_
    have num := hN.num
    repeat walk_at "rd"
    refine ⟨t, o, l, g, rfl, ht, fun u H3 nu s3 eu => ?_⟩
    have ht := s3 _ _ ht
    repeat walk_at "rd"
    refine r_Machine num.no num.nl num.ng num.np (fun m H4 nm hm s4 => ?_)
    have hD : 1 ≤ 2 * o + l ∧ 2 * o + l ≤ 3000000000 := by have := num.np; have := num.no; have := num.nl; omega
    have hG : 1 ≤ gapOf o g ∧ gapOf o g ≤ 1000000000 := by
      have := num.ng; have := num.no
      unfold gapOf; split <;> omega
    have hT1 := s1.ts hT
    have B : Bt a.c_Machine p q m o l g H4 := ⟨(hs2.keep s3).keep s4, hm, s4.ts (s3.ts (b2.tabs hs1 hT1))⟩
    clear hs1 b2 ht hN nt s1 hs2 nm s3 s4 eu nu hm hT hT1
    obtain ⟨D, hDe⟩ : ∃ D, 2 * o + l = D := ⟨_, rfl⟩
    obtain ⟨G, hGe⟩ : ∃ G, gapOf o g = G := ⟨_, rfl⟩
    have hG0 : 0 ≤ gapOf o g ∧ gapOf o g < 2 ^ 64 := by omega
    rw [hDe] at hD
    rw [hGe] at hG
    have hgf : ∀ n rs, faultF (2 * o + l) (gapOf o g) n rs = faultF D G n rs := fun n rs => by rw [hDe, hGe]
    repeat walk_at "rd"
    rw [hDe, hGe]
    refine ⟨by decide, by decide, for_range (lo := 0) (n := 3) (fun i σ H' => ∃ v6 v7 v8 v9 v10 v11 v12 v13 v14 v15 v16 v17 : Option V, σ = [some (.ref b), some (.ref p), some (.ref t), some (.int D), some (.int G), some (.ref m), v6, v7, v8, v9, v10, v11, v12, v13, v14, v15, v16, v17] ∧ Bt a.c_Machine p q m o l g H') ⟨_, _, _, _, _, _, _, _, _, _, _, _, rfl, B⟩ ?_ ?_⟩
    · clear B
      rintro i σ H6 hi ⟨v6, v7, v8, v9, v10, v11, v12, v13, v14, v15, v16, v17, rfl, B⟩
      repeat walk_at "rd"
      refine new_at (Nat.le_of_ble_eq_true rfl) (fun z1 H7 n1 s7 e7 => ?_)
      have B := B.keep s7
      obtain ⟨lim, hlim, l0, l9⟩ : ∃ lim : Int, atI [V.int 3, .int 10, .int 40] (0 + (i : Int)) = some (.int lim) ∧ 1 ≤ lim ∧ lim ≤ 40 := by
        match i, hi with
        | 0, _ => exact ⟨3, rfl, by decide, by decide⟩
        | 1, _ => exact ⟨10, rfl, by decide, by decide⟩
        | 2, _ => exact ⟨40, rfl, by decide, by decide⟩
        | i + 3, h => exact absurd h (by omega)
      repeat walk_at "rd"
      refine r_ixL e7 hlim ?_
      repeat walk_at "rd"
      refine ⟨p, q, lim, rfl, B.hs, by omega, by omega, fun n0 H8 n00 n09 hs8 b8 => ?_⟩
      have B := B.but hs8 b8
      clear hs8 b8 e7 s7 n1
      obtain ⟨n, hne⟩ : ∃ n, 1 + n0 = n := ⟨_, rfl⟩
      have hn : 1 ≤ n ∧ n ≤ 40 := by omega
      repeat walk_at "rd"
      rw [hne]
      refine new_at (Nat.le_of_ble_eq_true rfl) (fun z2 H9 n2 s9 e9 => ?_)
      have z2p := B.hs.ne n2
      have B := B.keep s9
      repeat walk_at "rd"
      refine ⟨p, q, 3, rfl, B.hs, by decide, by decide, fun kd H10 k0 k3 hs10 b10 => ?_⟩
      have e9 := b10 _ _ e9 z2p
      have B := B.but hs10 b10
      obtain ⟨most, hmost, m0, m9⟩ : ∃ most : Int, atI [V.int 1, .int 2, .int 40] kd = some (.int most) ∧ 1 ≤ most ∧ most ≤ 1000 := by
        have : kd = 0 ∨ kd = 1 ∨ kd = 2 := by omega
        rcases this with rfl | rfl | rfl
        · exact ⟨_, rfl, by decide, by decide⟩
        · exact ⟨_, rfl, by decide, by decide⟩
        · exact ⟨_, rfl, by decide, by decide⟩
      refine r_ixL e9 hmost ?_
      clear hs10 b10 e9 s9 n2
      repeat walk_at "rd"
      refine ⟨p, q, D, G, n, most, rfl, B.hs, hD, hG, by omega, ⟨m0, m9⟩, fun R xs rs H12 hs12 b12 eR hA nRp nRq nR hR => ?_⟩
      have B := B.but hs12 b12
      clear hs12 b12 nR
      have hrl : (rs.length : Int) = n - 1 := hR.len
      have hfn : faultF D G n rs = none := hR.ok hD hG (by omega)
      obtain ⟨nm, hN⟩ := hR.names (by omega) (by omega)
      have hQ := hR.q
      have hst : ∀ l, l ∈ rs → 0 ≤ l.2.2 ∧ l.2.2 < 10000000000000000 := fun l hl => by
        have h1 := hR.start l hl
        have h2 : (n - 1) * (4 * (D + G)) ≤ 40 * 16000000000 := Int.mul_le_mul (by omega) (by omega) (by omega) (by omega)
        omega
      have hst9 : ∀ l, l ∈ rs → 0 ≤ l.2.2 ∧ l.2.2 ≤ 1000000000000000 := fun l hl => by
        have h1 := hR.start l hl
        have h2 : (n - 1) * (4 * (D + G)) ≤ 40 * 16000000000 := Int.mul_le_mul (by omega) (by omega) (by omega) (by omega)
        omega
      have hnl : ∀ h : Nat, (h : Int) < n → (nm h).length ≤ 1000 := fun h hh => by
        obtain ⟨zs, e1, e2, _⟩ := hN.shape h (by omega) hh
        rw [e1, List.length_cons]
        omega
      have hxl := hA.1
      have hTr := hN.tree hQ (by omega) (by omega) hn.1
      have hQE := early_right hQ hN (by omega) (by omega)
      have hPm := early_perm hQ hN (by omega) (by omega) hn.1
      have hEl : (eRows D G nm rs).length = rs.length := by unfold eRows; rw [List.length_map]
      have hES2 : ∀ l, l ∈ eRows D G nm rs → 0 ≤ l.2.2 ∧ l.2.2 ≤ 1000000000000000 := fun l hl => by
        obtain ⟨r, hr, rfl⟩ := List.mem_map.mp hl
        have h1 := early_start hQ hN (by omega) (by omega) hr
        have h2 := hst9 r hr
        omega
      have hln : ((namesL n nm).length : Int) = n := by rw [namesL_len]; omega
      have hQP : RightQ D G n (planL D G (namesL n nm)) := by have := hTr.planQ (D := D) (G := G) (by omega) (by omega); rwa [hln] at this
      have hNP : NamesOk D G n (planL D G (namesL n nm)) (fun i => nAt (namesL n nm) i.toNat) := by have := hTr.planN (D := D) (G := G) (by omega); rwa [hln] at this
      have hPS : ∀ l, l ∈ planL D G (namesL n nm) → 0 ≤ l.2.2 ∧ l.2.2 ≤ 1000000000000000 := fun l hl => hES2 l (hPm.mem_iff.mpr hl)
      have hfP : faultF D G n (planL D G (namesL n nm)) = none := by
        rw [← law_fault (by omega) (by omega)]
        exact hQP.none hPS (by omega)
      have hPl : ((planL D G (namesL n nm)).length : Int) = n - 1 := by rw [planL_len]; omega
      have hnn : ∀ i : Nat, (i : Int) < n → nm i = nAt (namesL n nm) (i : Int).toNat := fun i hi => by rw [Int.toNat_natCast, nAt_of (namesL_get hi)]
      repeat first | walk_at "rd" | walk_at "rdi"
      refine ⟨R, D, G, n, most, xs, rs, nm, rfl, eR, hA, by omega, hD, hG, hQ, hst, hN, fun N1 ns1 H22 s22 eN1 hN1 => ?_⟩
      have B := B.keep s22
      have eR := s22 _ _ eR
      have hA := hA.keep s22
      clear s22
      repeat first | walk_at "rd" | walk_at "rdi"
      refine new_at (Nat.le_of_ble_eq_true rfl) (fun U H23 nU s23 eU => ?_)
      repeat first | walk_at "rd" | walk_at "rdi"
      refine ⟨by omega, for_range (lo := 1) (n := (n - 1).toNat) (fun j σ H' => ∃ (v11 v12 : Option V) (us : List V), σ = [some (.ref b), some (.ref p), some (.ref t), some (.int D), some (.int G), some (.ref m), some (.int (0 + (i : Nat))), some (.int n), some (.ref R), some (.ref N1), some (.ref U), v11, v12, v13, v14, v15, v16, v17] ∧ H' U = some (.lst us) ∧ TrisAt H' us ((planL D G (namesL n nm)).take j) ∧ Same H22 H') ⟨_, _, [], rfl, eU, by rw [List.take_zero]; exact TrisAt.nil, s23⟩ ?_ ?_⟩
      · rintro j σ H24 hj ⟨v11, v12, us, rfl, eU, hU, s24⟩
        rw [show (1 : Int) + (j : Nat) = ((j + 1 : Nat) : Int) by omega]
        obtain ⟨tn, e1, e2⟩ := (hN1.keep s24).2 (j + 1) (by omega)
        have eN := s24 _ _ eN1
        have hul := hU.1
        obtain ⟨x, z, ez, xn, xm, z0, z9, er⟩ := hTr.rowAt (D := D) (G := G) (i := j + 1) (by omega) (by omega)
        rw [namesL_get (by omega)] at ez
        have ez := Option.some.inj ez
        have e2' : H24 tn = some (.tup (x.map V.int ++ [V.int z])) := by rw [e2, ez, List.map_append]; rfl
        repeat first | walk_at "rd" | walk_at "rdi"
        refine r_ixL eN (atI_nat e1) ?_
        repeat first | walk_at "rd" | walk_at "rdi"
        refine ⟨.inl ⟨rfl, _, SqL.of eU⟩, ?_⟩
        repeat first | walk_at "rd" | walk_at "rdi"
        refine ⟨.inl ⟨rfl, _, SqL.of eN⟩, ?_⟩
        repeat first | walk_at "rd" | walk_at "rdi"
        refine r_slT (SqT.of e2') (not_whole2 _ _) (fun c H25 nc s25 ec => ?_)
        rw [cut_init] at ec
        have eN := s25 _ _ eN
        have hN25 := (hN1.keep s24).keep s25
        have e2 := s25 _ _ e2
        repeat first | walk_at "rd" | walk_at "rdi"
        refine r_indexT eN hN25.refsN ec xm ?_
        repeat first | walk_at "rd" | walk_at "rdi"
        refine ⟨tn, nm (j + 1 : Nat), rfl, SqT.of e2, ?_⟩
        repeat first | walk_at "rd" | walk_at "rdi"
        refine new_at (Nat.le_of_ble_eq_true rfl) (fun q2 H26 n26 s26 e26 => ?_)
        have eU := s26 _ _ (s25 _ _ eU)
        repeat first | walk_at "rd" | walk_at "rdi"
        refine r_app eU (small1000 (by rw [hul, List.length_take]; omega)) ?_
        refine ⟨_, _, us ++ [V.ref q2], rfl, upd_same, ?_, ((s24.trans s25).trans s26).over nU eU⟩
        have hrow : (planL D G (namesL n nm))[j]? = some (rowT D G (namesL n nm) (j + 1)) := planL_get (by omega)
        rw [take_more hrow]
        refine TrisAt.upd (TrisAt.snoc (hU.keep (s25.trans s26)) ?_) eU
        rw [e26, er]
        refine congrArg (fun y : Int => some (HO.tup [V.int (posOf x (namesL n nm) : Nat), V.int ((j + 1 : Nat) : Int), V.int y])) ?_
        have ht : (((nm (j + 1 : Nat)).map V.int).length : Int) - 2 = ((nm (j + 1 : Nat)).length : Int) - 1 - 1 := by rw [List.length_map]; omega
        rw [ht, Int.sub_mul, Int.one_mul]
        have := timeN_snoc (D := D) (G := G) (z := z) (ns := x)
        rw [← ez] at this
        unfold timeN at this ⊢
        dsimp only
        omega
      · clear eU
        rintro σ H24 ⟨v11, v12, us, rfl, eU, hU, s24⟩
        rw [List.take_of_length_le (by omega)] at hU
        have hul := hU.1
        have X : W29 a.c_Machine p q m o l g n R N1 U xs ns1 us rs (planL D G (namesL n nm)) nm H24 := ⟨B.keep s24, s24 _ _ eR, hA.keep s24, s24 _ _ eN1, hN1.keep s24, eU, hU⟩
        clear s23 s24 B eR hA eN1 hN1 eU hU nU
        repeat first | walk_at "rd" | walk_at "rdi"
        refine r_listL X.eN (fun A1 H25 nA s25 eA => ?_)
        have X := X.keep s25
        clear s25 nA
        repeat first | walk_at "rd" | walk_at "rdi"
        refine ⟨m, A1, o, l, g, n, ns1, nm, rfl, X.B.hm, num.no, num.nl, num.ng, num.np, .inl eA, X.hN, by omega, hTr, fun P0 ps H26 s26 nP0 eP0 hP0 => ?_⟩
        rw [hDe, hGe] at hP0
        have X0 := X
        have X := X.keep s26
        have eA := s26 _ _ eA
        repeat first | walk_at "rd" | walk_at "rdi"
        refine ⟨A1, N1, ns1, rfl, rfl, SqL.of eA, SqL.of X.eN, X.hN.flat, ?_⟩
        repeat first | walk_at "rd" | walk_at "rdi"
        refine ⟨P0, U, ps, us, _, rfl, eP0, X.eU, hP0, X.hU, by omega, ?_⟩
        repeat first | walk_at "rd" | walk_at "rdi"
        refine r_listL X.eU (fun A2 H27 nA2 s27 eA2 => ?_)
        have X := X.keep s27
        have eP0 := s27 _ _ eP0
        have s2 := s26.trans s27
        clear s26 s27 nA2
        repeat first | walk_at "rd" | walk_at "rdi"
        refine ⟨m, A2, o, l, g, n, us, _, rfl, X.B.hm, hG0.1, hG0.2, by omega, .inl eA2, X.hU, by omega, fun v H28 s28 hv => ?_⟩
        rw [hgf, hfP] at hv
        obtain rfl : v = .non := hv
        have X := X.keep s28
        have eP0 := s28 _ _ eP0
        have s2 := s2.trans s28
        clear s28 eA2
        repeat first | walk_at "rd" | walk_at "rdi"
        refine r_listL X.eU (fun A3 H29 nA3 s29 eA3 => ?_)
        have X := X.keep s29
        have eP0 := s29 _ _ eP0
        have s2 := s2.trans s29
        clear s29 nA3
        repeat first | walk_at "rd" | walk_at "rdi"
        refine ⟨m, A3, o, l, g, n, us, _, _, rfl, X.B.hm, by omega, by omega, hG0.2, by omega, .inl eA3, X.hU, by rw [hgf]; exact hfP, by rw [hDe, hGe]; exact hQP, by rw [hDe, hGe]; exact hNP, X.B.ht, fun N3 ns3 H30 s30 nN3 eN3 hN3 => ?_⟩
        have X := X.keep s30
        have eP0 := s30 _ _ eP0
        have s2 := s2.trans s30
        clear s30 eA3
        repeat first | walk_at "rd" | walk_at "rdi"
        refine ⟨N3, N1, ns3, ns1, n, nm, rfl, eN3, X.eN, hN3.congr (fun i hi => (hnn i hi).symm), X.hN, by omega, hnl, ?_⟩
        clear eN3 hN3 nN3
        repeat first | walk_at "rd" | walk_at "rdi"
        refine r_listL X.eR (fun A4 H31 nA4 s31 eA4 => ?_)
        have X := X.keep s31
        have eP0 := s31 _ _ eP0
        have s2 := s2.trans s31
        clear s31 nA4
        repeat first | walk_at "rd" | walk_at "rdi"
        refine ⟨m, A4, o, l, g, n, xs, rs, nm, rfl, X.B.hm, num.no, num.nl, num.ng, num.np, by omega, .inl eA4, X.hA, by rw [hgf]; exact hfn, by rw [hDe, hGe]; exact hQ, by rw [hDe, hGe]; exact hN, X.B.ht, fun E1 ys H32 s32 nE eE hE => ?_⟩
        rw [hDe, hGe] at hE
        have X := X.keep s32
        have eP0 := s32 _ _ eP0
        have s2 := s2.trans s32
        clear s32 eA4
        have hyl := hE.1
        repeat first | walk_at "rd" | walk_at "rdi"
        refine r_isi (n := "list") (b := true) (.base (.lst eE)) (kit_ty (by decide +kernel)) ?_
        repeat first | walk_at "rd" | walk_at "rdi"
        refine ⟨E1, rfl, ⟨_, SqL.of eE⟩, fun L hL => lc_list (K := K) (a := E1) (xs := ys) (fun i H' => H' L = some (.lst ((List.replicate i true).map V.bl)) ∧ Same H32 H') ⟨upd_same, Same.new hL⟩ (fun i H' _ h => SqL.of (h.2 _ _ eE)) ?_ ?_⟩
        · rintro j x H33 hx ⟨f1, s33⟩
          obtain ⟨t9, r9, rfl, hr1, et⟩ := (hE.keep s33).get hx
          have hi9 := (List.getElem?_eq_some_iff.mp hx).1
          repeat walk_at "rd"
          refine ⟨rfl, ?_⟩
          repeat first | walk_at "rd" | walk_at "rdi"
          refine r_isiTu2 true et (by decide +kernel) ?_
          repeat first | walk_at "rd" | walk_at "rdi"
          refine ⟨_, f1, small1000 (by rw [List.length_map, List.length_replicate]; omega), ?_, s33.over hL f1⟩
          rw [upd_same, List.replicate_succ', List.map_append]
          rfl
        rintro H33 ⟨f1, s33⟩
        have X := X.keep s33
        have eP0 := s33 _ _ eP0
        have s2 := s2.trans s33
        have eE := s33 _ _ eE
        have hE := hE.keep s33
        clear s33
        repeat first | walk_at "rd" | walk_at "rdi"
        refine ⟨L, List.replicate ys.length true, rfl, SqL.of f1, ?_⟩
        rw [show (List.replicate ys.length true).all id = true by rw [List.all_eq_true]; intro x hx; rw [List.eq_of_mem_replicate hx]; rfl]
        clear f1 hL
        repeat first | walk_at "rd" | walk_at "rdi"
        refine ⟨E1, rfl, ⟨_, SqL.of eE⟩, fun L2_ hL => lc_list (K := K) (a := E1) (xs := ys) (fun i H' => ∃ acc, H' L2_ = some (.lst acc) ∧ TrisAt H' acc (((eRows D G nm rs).take i).map rotS) ∧ Same H33 H') ⟨[], upd_same, TrisAt.nil, Same.new hL⟩ (fun i H' _ ⟨_, _, _, s⟩ => SqL.of (s _ _ eE)) ?_ ?_⟩
        · rintro j x H34 hx ⟨acc, g1, g2, s34⟩
          obtain ⟨t9, r9, rfl, hr1, et⟩ := (hE.keep s34).get hx
          have hi9 := (List.getElem?_eq_some_iff.mp hx).1
          repeat walk_at "rd"
          refine ⟨rfl, ?_⟩
          repeat walk_at "rd"
          refine new_at (Nat.le_of_ble_eq_true rfl) (fun t2 H4 n4 s4 e4 => ?_)
          have g1 := s4 _ _ g1
          refine ⟨_, g1, small1000 (by rw [g2.1, List.length_map, List.length_take]; omega), acc ++ [.ref t2], upd_same, ?_, (s34.trans s4).over hL g1⟩
          rw [take_more hr1, List.map_append]
          exact ((g2.keep s4).snoc (g := rotS r9) e4).upd g1
        rintro H34 ⟨acc, g1, g2, s34⟩
        have X := X.keep s34
        have eP0 := s34 _ _ eP0
        have s2 := s2.trans s34
        clear s34 hL
        rw [hyl, List.take_length] at g2
        have hal : acc.length = rs.length := by rw [g2.1, List.length_map, hEl]
        have bdE : ∀ l, l ∈ eRows D G nm rs → TS.Bd 10000000000000000 (swapL l) := fun l hl => swap_bd hQE (by omega) (fun l hl => by have := hES2 l hl; omega) hl
        repeat first | walk_at "rd" | walk_at "rdi"
        refine ⟨L2_, acc, rfl, SqL.of g1, by omega, fun x hx => ?_, fun zs q9 pm srt nq => ?_⟩
        · obtain ⟨t9, r9, rfl, hr1, et⟩ := g2.mem hx
          obtain ⟨r0, hr0, rfl⟩ := List.mem_map.mp hr1
          exact ⟨swapL r0, ⟨t9, rfl, SqT.of et⟩, rfl, bdE r0 hr0⟩
        obtain ⟨us2, hus, pu⟩ := TrisAt.perm pm g2
        have hB : (us2.map rotS).Pairwise fun l m => l.2.1 ≤ m.2.1 := by
          rw [List.pairwise_map]
          rw [List.pairwise_iff_getElem] at srt ⊢
          intro i j hi hj hij
          have hl := hus.1
          obtain ⟨t1, e1, et1⟩ := hus.2 i us2[i] (List.getElem?_eq_getElem hi)
          obtain ⟨t2, e2, et2⟩ := hus.2 j us2[j] (List.getElem?_eq_getElem hj)
          have h := srt i j (by omega) (by omega) hij [us2[i].1, us2[i].2.1, us2[i].2.2] [us2[j].1, us2[j].2.1, us2[j].2.2] ⟨t1, by rw [List.getElem?_eq_getElem (by omega)] at e1; exact Option.some.inj e1, SqT.of et1⟩ ⟨t2, by rw [List.getElem?_eq_getElem (by omega)] at e2; exact Option.some.inj e2, SqT.of et2⟩
          show us2[i].1 ≤ us2[j].1
          have bd : ∀ r, r ∈ us2 → TS.Bd 10000000000000000 [r.2.1, r.2.2] := fun r hr1 x hx => by
            obtain ⟨r0, hr0, rfl⟩ := List.mem_map.mp (pu.mem_iff.mp hr1)
            exact bdE r0 hr0 x (List.mem_cons_of_mem _ hx)
          by_cases c : us2[i].1 ≤ us2[j].1
          · exact c
          · have := TS.code_lt (B := 10000000000000000) (r := [us2[j].2.1, us2[j].2.2]) (q := [us2[i].2.1, us2[i].2.2]) rfl (bd _ (List.getElem_mem hj)) (bd _ (List.getElem_mem hi)) (show us2[j].1 < us2[i].1 by omega)
            omega
        have hsw : (us2.map rotS).map swapL = (planL D G (namesL n nm)).map swapL := by
          refine sorted_swap ?_ hB
          have p1 : (us2.map rotS).Perm (eRows D G nm rs) := by
            have := pu.map rotS
            rw [List.map_map] at this
            have e : (rotS ∘ rotS) = id := funext fun l => rotS_rotS l
            rw [e, List.map_id] at this
            exact this
          exact (p1.trans hPm).map swapL
        have s35 : Same H34 (L2.upd H34 q9 (.lst zs)) := Same.new nq
        have eq9 : (L2.upd H34 q9 (.lst zs)) q9 = some (.lst zs) := upd_same
        generalize L2.upd H34 q9 (.lst zs) = H35 at s35 eq9 ⊢
        have X := X.keep s35
        have eP0 := s35 _ _ eP0
        have s2 := s2.trans s35
        have hus := hus.keep s35
        clear s35 g1 g2 srt pm nq eE hE
        repeat first | walk_at "rd" | walk_at "rdi"
        refine ⟨U, rfl, ⟨_, SqL.of X.eU⟩, fun L3_ hL => lc_list (K := K) (a := U) (xs := us) (fun i H' => ∃ acc, H' L3_ = some (.lst acc) ∧ TrisAt H' acc (((planL D G (namesL n nm)).take i).map rotS) ∧ Same H35 H') ⟨[], upd_same, TrisAt.nil, Same.new hL⟩ (fun i H' _ ⟨_, _, _, s⟩ => SqL.of (s _ _ X.eU)) ?_ ?_⟩
        · rintro j x H36 hx ⟨acc, g1, g2, s36⟩
          obtain ⟨t9, r9, rfl, hr1, et⟩ := (X.hU.keep s36).get hx
          have hi9 := (List.getElem?_eq_some_iff.mp hx).1
          repeat walk_at "rd"
          refine ⟨rfl, ?_⟩
          repeat walk_at "rd"
          refine new_at (Nat.le_of_ble_eq_true rfl) (fun t2 H4 n4 s4 e4 => ?_)
          have g1 := s4 _ _ g1
          refine ⟨_, g1, small1000 (by rw [g2.1, List.length_map, List.length_take]; omega), acc ++ [.ref t2], upd_same, ?_, (s36.trans s4).over hL g1⟩
          rw [take_more hr1, List.map_append]
          exact ((g2.keep s4).snoc (g := rotS r9) e4).upd g1
        rintro H36 ⟨acc2, g1, g2, s36⟩
        rw [X.hU.1, List.take_length] at g2
        have X := X.keep s36
        have eP0 := s36 _ _ eP0
        have s2 := s2.trans s36
        have eq9 := s36 _ _ eq9
        have hus := hus.keep s36
        clear s36 hL
        repeat first | walk_at "rd" | walk_at "rdi"
        have c1 : RefsN H36 zs ((planL D G (namesL n nm)).map swapL) := by
          have := hus.refsN
          rw [← hsw, List.map_map]
          exact this
        have c2 : RefsN H36 acc2 ((planL D G (namesL n nm)).map swapL) := by
          have := g2.refsN
          rw [List.map_map] at this
          exact this
        refine r_neTups eq9 c1 g1 c2 ?_
        clear c1 c2 eq9 g1 g2 hus
        repeat first | walk_at "rd" | walk_at "rdi"
        refine r_Bm029 ?_
        repeat walk_at "rd"
        refine ⟨.inl ⟨rfl, _, SqL.of eP0⟩, ?_⟩
        refine ⟨P0, _, rfl, rfl, eP0, ?_⟩
        have s2 := s2.over (o := .lst []) nP0 eP0
        generalize L2.upd H36 P0 (.lst []) = H37 at s2 ⊢
        have X := X0.keep s2
        clear s2 X0 eP0 hP0
        repeat first | walk_at "rd" | walk_at "rdi"
        refine r_tupL X.eN (fun A5 H38 nA5 s38 eA5 => ?_)
        have X := X.keep s38
        repeat first | walk_at "rd" | walk_at "rdi"
        refine ⟨m, A5, o, l, g, n, ns1, nm, rfl, X.B.hm, num.no, num.nl, num.ng, num.np, .inr eA5, X.hN, by omega, hTr, fun P1 ps1 H39 s39 nP1 eP1 hP1 => ?_⟩
        rw [hDe, hGe] at hP1
        have X := X.keep s39
        clear s38 s39 nA5 eA5 nP1
        repeat first | walk_at "rd" | walk_at "rdi"
        refine ⟨P1, U, ps1, us, _, rfl, eP1, X.eU, hP1, X.hU, by omega, ?_⟩
        clear eP1 hP1
        repeat first | walk_at "rd" | walk_at "rdi"
        refine ite_d (fun hc => ?_) (fun hc => (by repeat first | exact ⟨_, _, _, _, _, _, _, _, _, _, _, _, rfl, X.B⟩ | walk_at "rd" | walk_at "rdi"))
        obtain ⟨t0, e0, et0⟩ := X.hN.2 0 (by omega)
        have z0 : nm ((0 : Nat) : Int) = [0] := hN.zero
        rw [z0] at et0
        have hNl := X.hN.1
        repeat first | walk_at "rd" | walk_at "rdi"
        refine r_ixL X.eN (atI_nat e0) ?_
        repeat first | walk_at "rd" | walk_at "rdi"
        refine new_at (Nat.le_of_ble_eq_true rfl) (fun Mx H40 nM s40 eM => ?_)
        have nMq : Mx ≠ q := X.B.hs.neq nM
        have X := X.keep s40
        have et0 := s40 _ _ et0
        have hs40 := X.B.hs
        repeat first | walk_at "rd" | walk_at "rdi"
        refine r_slL (SqL.of X.eN) (fun S H41 nS s41 eS => ?_)
        have hMS : Mx ≠ S := ne_of_none eM nS
        have X := X.keep s41
        have eM := s41 _ _ eM
        have et0 := s41 _ _ et0
        have ecut : cutV ns1 (some 1) none = ns1.drop 1 := by
          cases ns1 with
          | nil => simp at hNl; omega
          | cons v vs => exact cut_one v vs
        rw [ecut] at eS
        have hSr : RefsN H41 (ns1.drop 1) ((namesL n nm).drop 1) := ⟨by rw [List.length_drop, List.length_drop, X.hN.refsN.1], fun i x hx => by
          rw [List.getElem?_drop] at hx
          obtain ⟨t9, e9, z9⟩ := X.hN.refsN.2 (1 + i) x hx
          exact ⟨t9, by rw [List.getElem?_drop]; exact e9, z9⟩⟩
        have hMr : RefsN H41 [V.ref t0] [[0]] := ⟨rfl, fun i x hx => by
          cases i with
          | zero => rw [← Option.some.inj hx]; exact ⟨t0, rfl, et0⟩
          | succ i => cases hx⟩
        have nep : ∀ {c : Addr} {zs : List V} {H' : Hp}, SrcAt H' p q → H' c = some (.lst zs) → zs.length ≠ 5 → c ≠ p := fun {c zs H'} hs e hl z => by
          obtain ⟨cs, i, big, cnt, st, h1, _⟩ := hs
          rw [z, h1] at e
          have := congrArg List.length (HO.lst.inj (Option.some.inj e))
          exact hl (by rw [← this]; rfl)
        have nMp : Mx ≠ p := nep X.B.hs eM (by show (1 : Nat) ≠ 5; decide)
        have nSp : S ≠ p := hs40.ne nS
        have B := X.B
        clear X s40 s41 nM nS
        repeat first | walk_at "rd" | walk_at "rdi"
        refine ⟨S, rfl, ⟨_, SqL.of eS⟩, for_list (K := K) (a := S) (xs := ns1.drop 1) (fun j σ H' => ∃ (v12 : Option V) (mx : List V) (ms : List (List Int)), σ = [some (.ref b), some (.ref p), some (.ref t), some (.int D), some (.int G), some (.ref m), some (.int (0 + (i : Nat))), some (.int n), some (.ref R), some (.ref N1), some (.ref U), v11, v12, some (.ref A1), some (.ref P0), some (.ref E1), some (.ref Mx), v17] ∧ Bt a.c_Machine p q m o l g H' ∧ H' S = some (.lst (ns1.drop 1)) ∧ RefsN H' (ns1.drop 1) ((namesL n nm).drop 1) ∧ H' Mx = some (.lst mx) ∧ RefsN H' mx ms ∧ ms[0]? = some [0] ∧ ms.Perm ([0] :: ((namesL n nm).drop 1).take j)) ⟨_, _, _, rfl, B, eS, hSr, eM, hMr, rfl, by rw [List.take_zero]⟩ (fun j σ H' _ ⟨_, _, _, _, _, e, _⟩ => SqL.of e) ?_ ?_⟩
        · clear B eS hSr eM hMr et0
          rintro j x σ H42 hx ⟨v12, mx, ms, rfl, B, eS, hSr, eM, hMr, h0, hp⟩
          obtain ⟨t9, ex9, et9⟩ : ∃ t9 : Addr, x = .ref t9 ∧ ∃ y, ((namesL n nm).drop 1)[j]? = some y ∧ H42 t9 = some (.tup (y.map V.int)) := by
            have hj := (List.getElem?_eq_some_iff.mp hx).1
            have hl1 := hSr.1
            have ey : ((namesL n nm).drop 1)[j]? = some ((namesL n nm).drop 1)[j] := List.getElem?_eq_getElem (by omega)
            obtain ⟨t9, e9, z9⟩ := hSr.2 j _ ey
            exact ⟨t9, Option.some.inj (hx.symm.trans e9), _, ey, z9⟩
          obtain ⟨y, hy, et9⟩ := et9
          subst ex9
          have hml := hMr.1
          have hm1 : 1 ≤ ms.length := by
            have := (List.getElem?_eq_some_iff.mp h0).1
            omega
          have hmle : ms.length ≤ 41 := by
            have := hp.length_eq
            rw [List.length_cons, List.length_take] at this
            have h3 : ((namesL n nm).drop 1).length ≤ 40 := by rw [List.length_drop]; omega
            omega
          repeat first | walk_at "rd" | walk_at "rdi"
          refine ⟨.inl ⟨rfl, _, SqL.of eM⟩, ?_⟩
          repeat first | walk_at "rd" | walk_at "rdi"
          refine ⟨p, q, (mx.length : Int), rfl, B.hs, by omega, by omega, fun r H43 r0 r9 hs43 b43 => ?_⟩
          have hMr := hMr.but B.hs b43
          have hSr := hSr.but B.hs b43
          have et9 := tup_but et9 B.hs b43
          have eM := b43 _ _ eM nMp
          have eS := b43 _ _ eS nSp
          have B := B.but hs43 b43
          repeat first | walk_at "rd" | walk_at "rdi"
          refine ⟨Mx, mx, 1 + r, .ref t9, rfl, rfl, eM, small1000 (by omega), by omega, by omega, ?_⟩
          refine ⟨_, mx.take (1 + r).toNat ++ [.ref t9] ++ mx.drop (1 + r).toNat, ms.take (1 + r).toNat ++ [y] ++ ms.drop (1 + r).toNat, rfl, B.upd29 eM nMp nMq, (upd_ne (Ne.symm hMS)).trans eS, hSr.upd eM, upd_same, (hMr.ins (by omega) et9).upd eM, ?_, ?_⟩
          · rw [List.append_assoc, List.getElem?_append_left (by rw [List.length_take]; omega), List.getElem?_take, if_pos (by omega)]
            exact h0
          · rw [take_more hy]
            have p1 : (ms.take (1 + r).toNat ++ [y] ++ ms.drop (1 + r).toNat).Perm (ms ++ [y]) := (perm_split ms (1 + r).toNat y).symm
            exact p1.trans (hp.append_right [y])
        · clear B eS hSr eM hMr et0
          rintro σ H42 ⟨v12, mx, ms, rfl, B, eS, hSr, eM, hMr, h0, hp⟩
          have hml := hMr.1
          have hpn : ms.Perm (namesL n nm) := by
            have e0 : namesL n nm = [0] :: (namesL n nm).drop 1 := by
              have e := hTr.zero
              cases q : namesL n nm with
              | nil => rw [q] at e; cases e
              | cons v vs =>
                rw [q] at e
                rw [← Option.some.inj e]
                rfl
            rw [e0]
            rw [List.take_of_length_le (by rw [List.length_drop, List.length_drop]; omega)] at hp
            exact hp
          have hTm : TreeN ms := hTr.perm hpn.symm h0
          have hmn : (ms.length : Int) = n := by rw [hpn.length_eq]; exact hln
          have hTm' : TreeN (namesL n (fun i => nAt ms i.toNat)) := by rw [← hmn, namesL_nAt]; exact hTm
          have eNm : namesL n (fun i => nAt ms i.toNat) = ms := by rw [← hmn, namesL_nAt]
          have hMn : NmsAt H42 mx n (fun i => nAt ms i.toNat) := by have := hMr.nms; rwa [hmn] at this
          have hQM : RightQ D G n (planL D G ms) := by have := hTm.planQ (D := D) (G := G) (by omega) (by omega); rwa [hmn] at this
          have hNM : NamesOk D G n (planL D G ms) (fun i => nAt ms i.toNat) := by have := hTm.planN (D := D) (G := G) (by omega); rwa [hmn] at this
          have hSM : ∀ l, l ∈ planL D G ms → 0 ≤ l.2.2 ∧ l.2.2 ≤ 1000000000000000 := fun l hl => hTm.start29 (by omega) (by omega) (by omega) hl
          have hfM : faultF D G n (planL D G ms) = none := by
            rw [← law_fault (by omega) (by omega)]
            exact hQM.none hSM (by omega)
          have hMl : ((planL D G ms).length : Int) = n - 1 := by rw [planL_len]; omega
          have hnl2 : ∀ h : Nat, (h : Int) < n → (nAt ms (h : Int).toNat).length ≤ 1000 := fun h hh => by
            obtain ⟨zs, e1, e2, _⟩ := hNM.shape h (by omega) hh
            rw [e1, List.length_cons]
            omega
          repeat first | walk_at "rd" | walk_at "rdi"
          refine r_listL eM (fun A6 H43 nA6 s43 eA6 => ?_)
          have B := B.keep s43
          have eM := s43 _ _ eM
          have hMn := hMn.keep s43
          repeat first | walk_at "rd" | walk_at "rdi"
          refine ⟨m, A6, o, l, g, n, mx, _, rfl, B.hm, num.no, num.nl, num.ng, num.np, .inl eA6, hMn, by omega, hTm', fun P2 ps2 H44 s44 nP2 eP2 hP2 => ?_⟩
          rw [hDe, hGe, eNm] at hP2
          have B := B.keep s44
          have eM := s44 _ _ eM
          have hMn := hMn.keep s44
          clear s43 s44 nA6 eA6 nP2
          repeat first | walk_at "rd" | walk_at "rdi"
          refine ⟨m, P2, o, l, g, n, ps2, _, _, rfl, B.hm, by omega, by omega, hG0.2, by omega, .inl eP2, hP2, by rw [hgf]; exact hfM, by rw [hDe, hGe]; exact hQM, by rw [hDe, hGe]; exact hNM, B.ht, fun N4 ns4 H45 s45 nN4 eN4 hN4 => ?_⟩
          have B := B.keep s45
          have eM := s45 _ _ eM
          have hMn := hMn.keep s45
          repeat first | walk_at "rd" | walk_at "rdi"
          refine ⟨N4, Mx, ns4, mx, n, _, rfl, eN4, eM, hN4, hMn, by omega, hnl2, ?_⟩
          repeat first | exact ⟨_, _, _, _, _, _, _, _, _, _, _, _, rfl, B⟩ | walk_at "rd" | walk_at "rdi"
    · rintro σ H6 ⟨v6, v7, v8, v9, v10, v11, v12, v13, v14, v15, v16, v17, rfl, B⟩
      repeat walk_at "rd"
      exact k _
end

end My
namespace My
open PySem L2
set_option maxHeartbeats 2000000 in
theorem all_mk {l : PySem.W.OpenLaw} {w : World} {K : PySem.W.Frag} {h : Heap} {mg : Str → Option Value} {fa : Addr} (X : K.In h) (G : h.Ns mainGlobals mg) (hfa : mg "law" = some (.ref fa))
    {c_Machine : Addr} {c_Tree : Addr} {oc_is_integer : Value} {od_is_integer : Option Addr} {an_is_integer : Option Addr} {sl_is_integer : Array (Option Value)} {kV_is_integer : Value} {dc_is_integer : Value} {pm_is_integer : Value} {cd_is_integer : Value} {ct_is_integer : Value} {f_is_integer : Addr} {oc_is_between : Value} {od_is_between : Option Addr} {an_is_between : Option Addr} {sl_is_between : Array (Option Value)} {kV_is_between : Value} {dc_is_between : Value} {pm_is_between : Value} {cd_is_between : Value} {ct_is_between : Value} {f_is_between : Addr} {oc_check_turns : Value} {od_check_turns : Option Addr} {an_check_turns : Option Addr} {sl_check_turns : Array (Option Value)} {kV_check_turns : Value} {dc_check_turns : Value} {pm_check_turns : Value} {cd_check_turns : Value} {ct_check_turns : Value} {f_check_turns : Addr} {oc_check_roots : Value} {od_check_roots : Option Addr} {an_check_roots : Option Addr} {sl_check_roots : Array (Option Value)} {kV_check_roots : Value} {dc_check_roots : Value} {pm_check_roots : Value} {cd_check_roots : Value} {ct_check_roots : Value} {f_check_roots : Addr} {oc_check_count : Value} {od_check_count : Option Addr} {an_check_count : Option Addr} {sl_check_count : Array (Option Value)} {kV_check_count : Value} {dc_check_count : Value} {pm_check_count : Value} {cd_check_count : Value} {ct_check_count : Value} {f_check_count : Addr} {oc_wrong_in_name : Value} {od_wrong_in_name : Option Addr} {an_wrong_in_name : Option Addr} {sl_wrong_in_name : Array (Option Value)} {kV_wrong_in_name : Value} {dc_wrong_in_name : Value} {pm_wrong_in_name : Value} {cd_wrong_in_name : Value} {ct_wrong_in_name : Value} {f_wrong_in_name : Addr} {oc_check_name : Value} {od_check_name : Option Addr} {an_check_name : Option Addr} {sl_check_name : Array (Option Value)} {kV_check_name : Value} {dc_check_name : Value} {pm_check_name : Value} {cd_check_name : Value} {ct_check_name : Value} {f_check_name : Addr} {oc_refuse : Value} {od_refuse : Option Addr} {an_refuse : Option Addr} {sl_refuse : Array (Option Value)} {kV_refuse : Value} {dc_refuse : Value} {pm_refuse : Value} {cd_refuse : Value} {ct_refuse : Value} {f_refuse : Addr} {oc_is_row : Value} {od_is_row : Option Addr} {an_is_row : Option Addr} {sl_is_row : Array (Option Value)} {kV_is_row : Value} {dc_is_row : Value} {pm_is_row : Value} {cd_is_row : Value} {ct_is_row : Value} {f_is_row : Addr} {oc_form_fault : Value} {od_form_fault : Option Addr} {an_form_fault : Option Addr} {sl_form_fault : Array (Option Value)} {kV_form_fault : Value} {dc_form_fault : Value} {pm_form_fault : Value} {cd_form_fault : Value} {ct_form_fault : Value} {f_form_fault : Addr} {oc_hand_fault : Value} {od_hand_fault : Option Addr} {an_hand_fault : Option Addr} {sl_hand_fault : Array (Option Value)} {kV_hand_fault : Value} {dc_hand_fault : Value} {pm_hand_fault : Value} {cd_hand_fault : Value} {ct_hand_fault : Value} {f_hand_fault : Addr} {oc_again_fault : Value} {od_again_fault : Option Addr} {an_again_fault : Option Addr} {sl_again_fault : Array (Option Value)} {kV_again_fault : Value} {dc_again_fault : Value} {pm_again_fault : Value} {cd_again_fault : Value} {ct_again_fault : Value} {f_again_fault : Addr} {oc_nobody_fault : Value} {od_nobody_fault : Option Addr} {an_nobody_fault : Option Addr} {sl_nobody_fault : Array (Option Value)} {kV_nobody_fault : Value} {dc_nobody_fault : Value} {pm_nobody_fault : Value} {cd_nobody_fault : Value} {ct_nobody_fault : Value} {f_nobody_fault : Addr} {oc_early_fault : Value} {od_early_fault : Option Addr} {an_early_fault : Option Addr} {sl_early_fault : Array (Option Value)} {kV_early_fault : Value} {dc_early_fault : Value} {pm_early_fault : Value} {cd_early_fault : Value} {ct_early_fault : Value} {f_early_fault : Addr} {oc_telling_fault : Value} {od_telling_fault : Option Addr} {an_telling_fault : Option Addr} {sl_telling_fault : Array (Option Value)} {kV_telling_fault : Value} {dc_telling_fault : Value} {pm_telling_fault : Value} {cd_telling_fault : Value} {ct_telling_fault : Value} {f_telling_fault : Addr} {oc_is_near : Value} {od_is_near : Option Addr} {an_is_near : Option Addr} {sl_is_near : Array (Option Value)} {kV_is_near : Value} {dc_is_near : Value} {pm_is_near : Value} {cd_is_near : Value} {ct_is_near : Value} {f_is_near : Addr} {oc_near_fault : Value} {od_near_fault : Option Addr} {an_near_fault : Option Addr} {sl_near_fault : Array (Option Value)} {kV_near_fault : Value} {dc_near_fault : Value} {pm_near_fault : Value} {cd_near_fault : Value} {ct_near_fault : Value} {f_near_fault : Addr} {oc_Tree_init : Value} {od_Tree_init : Option Addr} {an_Tree_init : Option Addr} {sl_Tree_init : Array (Option Value)} {kV_Tree_init : Value} {dc_Tree_init : Value} {pm_Tree_init : Value} {cd_Tree_init : Value} {ct_Tree_init : Value} {f_Tree_init : Addr} {oc_time_of : Value} {od_time_of : Option Addr} {an_time_of : Option Addr} {sl_time_of : Array (Option Value)} {kV_time_of : Value} {dc_time_of : Value} {pm_time_of : Value} {cd_time_of : Value} {ct_time_of : Value} {f_time_of : Addr} {oc_is_name : Value} {od_is_name : Option Addr} {an_is_name : Option Addr} {sl_is_name : Array (Option Value)} {dc_is_name : Value} {pm_is_name : Value} {cd_is_name : Value} {ct_is_name : Value} {f_is_name : Addr} {D_is_name : Addr} {t_is_name_roots : Addr} {td_is_name_roots : Option Addr} {tn_is_name_roots : Nat} {ts_is_name_roots : Array (Option Value)} {tk0_is_name_roots : Tok} {oc_known_at : Value} {od_known_at : Option Addr} {an_known_at : Option Addr} {sl_known_at : Array (Option Value)} {dc_known_at : Value} {pm_known_at : Value} {cd_known_at : Value} {ct_known_at : Value} {f_known_at : Addr} {D_known_at : Addr} {t_known_at_roots : Addr} {td_known_at_roots : Option Addr} {tn_known_at_roots : Nat} {ts_known_at_roots : Array (Option Value)} {tk0_known_at_roots : Tok} {oc_row_fault : Value} {od_row_fault : Option Addr} {an_row_fault : Option Addr} {sl_row_fault : Array (Option Value)} {kV_row_fault : Value} {dc_row_fault : Value} {pm_row_fault : Value} {cd_row_fault : Value} {ct_row_fault : Value} {f_row_fault : Addr} {oc_fault : Value} {od_fault : Option Addr} {an_fault : Option Addr} {sl_fault : Array (Option Value)} {kV_fault : Value} {dc_fault : Value} {pm_fault : Value} {cd_fault : Value} {ct_fault : Value} {f_fault : Addr} {oc_by_start : Value} {od_by_start : Option Addr} {an_by_start : Option Addr} {sl_by_start : Array (Option Value)} {kV_by_start : Value} {dc_by_start : Value} {pm_by_start : Value} {k_by_start : Addr} {ct_by_start : Value} {f_by_start : Addr} {oc_with_starts : Value} {od_with_starts : Option Addr} {an_with_starts : Option Addr} {sl_with_starts : Array (Option Value)} {kV_with_starts : Value} {dc_with_starts : Value} {pm_with_starts : Value} {cd_with_starts : Value} {ct_with_starts : Value} {f_with_starts : Addr} {oc_start_of : Value} {od_start_of : Option Addr} {an_start_of : Option Addr} {sl_start_of : Array (Option Value)} {kV_start_of : Value} {dc_start_of : Value} {pm_start_of : Value} {cd_start_of : Value} {ct_start_of : Value} {f_start_of : Addr} {oc_names_of : Value} {od_names_of : Option Addr} {an_names_of : Option Addr} {sl_names_of : Array (Option Value)} {kV_names_of : Value} {dc_names_of : Value} {pm_names_of : Value} {cd_names_of : Value} {ct_names_of : Value} {f_names_of : Addr} {oc_earliest : Value} {od_earliest : Option Addr} {an_earliest : Option Addr} {sl_earliest : Array (Option Value)} {kV_earliest : Value} {dc_earliest : Value} {pm_earliest : Value} {cd_earliest : Value} {ct_earliest : Value} {f_earliest : Addr} {oc_check_names : Value} {od_check_names : Option Addr} {an_check_names : Option Addr} {sl_check_names : Array (Option Value)} {kV_check_names : Value} {dc_check_names : Value} {pm_check_names : Value} {cd_check_names : Value} {ct_check_names : Value} {f_check_names : Addr} {oc_plan_of : Value} {od_plan_of : Option Addr} {an_plan_of : Option Addr} {sl_plan_of : Array (Option Value)} {kV_plan_of : Value} {dc_plan_of : Value} {pm_plan_of : Value} {cd_plan_of : Value} {ct_plan_of : Value} {f_plan_of : Addr} {oc_Machine_init : Value} {od_Machine_init : Option Addr} {an_Machine_init : Option Addr} {sl_Machine_init : Array (Option Value)} {kV_Machine_init : Value} {dc_Machine_init : Value} {pm_Machine_init : Value} {cd_Machine_init : Value} {ct_Machine_init : Value} {f_Machine_init : Addr} {oc__law_source : Value} {od__law_source : Option Addr} {an__law_source : Option Addr} {sl__law_source : Array (Option Value)} {kV__law_source : Value} {dc__law_source : Value} {pm__law_source : Value} {cd__law_source : Value} {ct__law_source : Value} {f__law_source : Addr} {oc__law_draw : Value} {od__law_draw : Option Addr} {an__law_draw : Option Addr} {sl__law_draw : Array (Option Value)} {kV__law_draw : Value} {dc__law_draw : Value} {pm__law_draw : Value} {cd__law_draw : Value} {ct__law_draw : Value} {f__law_draw : Addr} {oc__law_big : Value} {od__law_big : Option Addr} {an__law_big : Option Addr} {sl__law_big : Array (Option Value)} {kV__law_big : Value} {dc__law_big : Value} {pm__law_big : Value} {cd__law_big : Value} {ct__law_big : Value} {f__law_big : Addr} {oc__law_numbers : Value} {od__law_numbers : Option Addr} {an__law_numbers : Option Addr} {sl__law_numbers : Array (Option Value)} {kV__law_numbers : Value} {dc__law_numbers : Value} {pm__law_numbers : Value} {cd__law_numbers : Value} {ct__law_numbers : Value} {f__law_numbers : Addr} {oc__law_times : Value} {od__law_times : Option Addr} {an__law_times : Option Addr} {sl__law_times : Array (Option Value)} {kV__law_times : Value} {dc__law_times : Value} {pm__law_times : Value} {cd__law_times : Value} {ct__law_times : Value} {f__law_times : Addr} {oc__law_is : Value} {od__law_is : Option Addr} {an__law_is : Option Addr} {sl__law_is : Array (Option Value)} {kV__law_is : Value} {dc__law_is : Value} {pm__law_is : Value} {cd__law_is : Value} {ct__law_is : Value} {f__law_is : Addr} {oc__law_same_names : Value} {od__law_same_names : Option Addr} {an__law_same_names : Option Addr} {sl__law_same_names : Array (Option Value)} {kV__law_same_names : Value} {dc__law_same_names : Value} {pm__law_same_names : Value} {cd__law_same_names : Value} {ct__law_same_names : Value} {f__law_same_names : Addr} {oc__law_plan : Value} {od__law_plan : Option Addr} {an__law_plan : Option Addr} {sl__law_plan : Array (Option Value)} {kV__law_plan : Value} {dc__law_plan : Value} {pm__law_plan : Value} {cd__law_plan : Value} {ct__law_plan : Value} {f__law_plan : Addr} {oc__law_same_rows : Value} {od__law_same_rows : Option Addr} {an__law_same_rows : Option Addr} {sl__law_same_rows : Array (Option Value)} {kV__law_same_rows : Value} {dc__law_same_rows : Value} {pm__law_same_rows : Value} {cd__law_same_rows : Value} {ct__law_same_rows : Value} {f__law_same_rows : Addr} {oc__law_called : Value} {od__law_called : Option Addr} {an__law_called : Option Addr} {sl__law_called : Array (Option Value)} {kV__law_called : Value} {dc__law_called : Value} {pm__law_called : Value} {cd__law_called : Value} {ct__law_called : Value} {f__law_called : Addr} {oc_law : Value} {od_law : Option Addr} {an_law : Option Addr} {sl_law : Array (Option Value)} {kV_law : Value} {dc_law : Value} {pm_law : Value} {cd_law : Value} {ct_law : Value} {f_law : Addr} {t_MOST_TURNS : Tok} {t_MOST_ROOTS : Tok} {t_LATEST_ROOT : Tok} {t_LONGEST_NAME : Tok} {t_GREATEST_ITEM : Tok} {t_MOST_PLANNED : Tok} {t_MOST_ROWS : Tok} {t_LATEST_START : Tok} {t_FREE_DEPTHS : Tok} {t_TURNS_DEPTHS : Tok} {t_GREATEST_PART : Tok} {tb_by_start : Addr} {kc_by_start : Value} {kd_by_start : Option Addr} {kvs_by_start : Array Value} {ksl_by_start : Array (Option Value)}
    (H_g_Machine : PySem.W.nsIn K mainGlobals "Machine" = some (some (.ref c_Machine)))
    (H_g_Tree : PySem.W.nsIn K mainGlobals "Tree" = some (some (.ref c_Tree)))
    (H_a_is_integer : PySem.W.nsIn K mainGlobals "is_integer" = some (some (.ref f_is_integer)))
    (H_l_is_integer : K.lookup f_is_integer = some ⟨oc_is_integer, od_is_integer, .func (PySem.W.fnOf "is_integer" "is_integer" (defArgs s_is_integer) (defBody s_is_integer) (defScope s_is_integer) .none kV_is_integer dc_is_integer pm_is_integer an_is_integer cd_is_integer ct_is_integer), sl_is_integer⟩)
    (H_c_is_integer : PySem.W.codeIn K cd_is_integer "is_integer" = true)
    (H_k_is_integer : PySem.W.keepIn K (.ref f_is_integer) = true)
    (H_a_is_between : PySem.W.nsIn K mainGlobals "is_between" = some (some (.ref f_is_between)))
    (H_l_is_between : K.lookup f_is_between = some ⟨oc_is_between, od_is_between, .func (PySem.W.fnOf "is_between" "is_between" (defArgs s_is_between) (defBody s_is_between) (defScope s_is_between) .none kV_is_between dc_is_between pm_is_between an_is_between cd_is_between ct_is_between), sl_is_between⟩)
    (H_c_is_between : PySem.W.codeIn K cd_is_between "is_between" = true)
    (H_k_is_between : PySem.W.keepIn K (.ref f_is_between) = true)
    (H_a_check_turns : PySem.W.nsIn K mainGlobals "check_turns" = some (some (.ref f_check_turns)))
    (H_l_check_turns : K.lookup f_check_turns = some ⟨oc_check_turns, od_check_turns, .func (PySem.W.fnOf "check_turns" "check_turns" (defArgs s_check_turns) (defBody s_check_turns) (defScope s_check_turns) .none kV_check_turns dc_check_turns pm_check_turns an_check_turns cd_check_turns ct_check_turns), sl_check_turns⟩)
    (H_c_check_turns : PySem.W.codeIn K cd_check_turns "check_turns" = true)
    (H_k_check_turns : PySem.W.keepIn K (.ref f_check_turns) = true)
    (H_a_check_roots : PySem.W.nsIn K mainGlobals "check_roots" = some (some (.ref f_check_roots)))
    (H_l_check_roots : K.lookup f_check_roots = some ⟨oc_check_roots, od_check_roots, .func (PySem.W.fnOf "check_roots" "check_roots" (defArgs s_check_roots) (defBody s_check_roots) (defScope s_check_roots) .none kV_check_roots dc_check_roots pm_check_roots an_check_roots cd_check_roots ct_check_roots), sl_check_roots⟩)
    (H_c_check_roots : PySem.W.codeIn K cd_check_roots "check_roots" = true)
    (H_k_check_roots : PySem.W.keepIn K (.ref f_check_roots) = true)
    (H_a_check_count : PySem.W.nsIn K mainGlobals "check_count" = some (some (.ref f_check_count)))
    (H_l_check_count : K.lookup f_check_count = some ⟨oc_check_count, od_check_count, .func (PySem.W.fnOf "check_count" "check_count" (defArgs s_check_count) (defBody s_check_count) (defScope s_check_count) .none kV_check_count dc_check_count pm_check_count an_check_count cd_check_count ct_check_count), sl_check_count⟩)
    (H_c_check_count : PySem.W.codeIn K cd_check_count "check_count" = true)
    (H_k_check_count : PySem.W.keepIn K (.ref f_check_count) = true)
    (H_a_wrong_in_name : PySem.W.nsIn K mainGlobals "wrong_in_name" = some (some (.ref f_wrong_in_name)))
    (H_l_wrong_in_name : K.lookup f_wrong_in_name = some ⟨oc_wrong_in_name, od_wrong_in_name, .func (PySem.W.fnOf "wrong_in_name" "wrong_in_name" (defArgs s_wrong_in_name) (defBody s_wrong_in_name) (defScope s_wrong_in_name) .none kV_wrong_in_name dc_wrong_in_name pm_wrong_in_name an_wrong_in_name cd_wrong_in_name ct_wrong_in_name), sl_wrong_in_name⟩)
    (H_c_wrong_in_name : PySem.W.codeIn K cd_wrong_in_name "wrong_in_name" = true)
    (H_k_wrong_in_name : PySem.W.keepIn K (.ref f_wrong_in_name) = true)
    (H_a_check_name : PySem.W.nsIn K mainGlobals "check_name" = some (some (.ref f_check_name)))
    (H_l_check_name : K.lookup f_check_name = some ⟨oc_check_name, od_check_name, .func (PySem.W.fnOf "check_name" "check_name" (defArgs s_check_name) (defBody s_check_name) (defScope s_check_name) .none kV_check_name dc_check_name pm_check_name an_check_name cd_check_name ct_check_name), sl_check_name⟩)
    (H_c_check_name : PySem.W.codeIn K cd_check_name "check_name" = true)
    (H_k_check_name : PySem.W.keepIn K (.ref f_check_name) = true)
    (H_a_refuse : PySem.W.nsIn K mainGlobals "refuse" = some (some (.ref f_refuse)))
    (H_l_refuse : K.lookup f_refuse = some ⟨oc_refuse, od_refuse, .func (PySem.W.fnOf "refuse" "refuse" (defArgs s_refuse) (defBody s_refuse) (defScope s_refuse) .none kV_refuse dc_refuse pm_refuse an_refuse cd_refuse ct_refuse), sl_refuse⟩)
    (H_c_refuse : PySem.W.codeIn K cd_refuse "refuse" = true)
    (H_k_refuse : PySem.W.keepIn K (.ref f_refuse) = true)
    (H_a_is_row : PySem.W.nsIn K mainGlobals "is_row" = some (some (.ref f_is_row)))
    (H_l_is_row : K.lookup f_is_row = some ⟨oc_is_row, od_is_row, .func (PySem.W.fnOf "is_row" "is_row" (defArgs s_is_row) (defBody s_is_row) (defScope s_is_row) .none kV_is_row dc_is_row pm_is_row an_is_row cd_is_row ct_is_row), sl_is_row⟩)
    (H_c_is_row : PySem.W.codeIn K cd_is_row "is_row" = true)
    (H_k_is_row : PySem.W.keepIn K (.ref f_is_row) = true)
    (H_a_form_fault : PySem.W.nsIn K mainGlobals "form_fault" = some (some (.ref f_form_fault)))
    (H_l_form_fault : K.lookup f_form_fault = some ⟨oc_form_fault, od_form_fault, .func (PySem.W.fnOf "form_fault" "form_fault" (defArgs s_form_fault) (defBody s_form_fault) (defScope s_form_fault) .none kV_form_fault dc_form_fault pm_form_fault an_form_fault cd_form_fault ct_form_fault), sl_form_fault⟩)
    (H_c_form_fault : PySem.W.codeIn K cd_form_fault "form_fault" = true)
    (H_k_form_fault : PySem.W.keepIn K (.ref f_form_fault) = true)
    (H_a_hand_fault : PySem.W.nsIn K mainGlobals "hand_fault" = some (some (.ref f_hand_fault)))
    (H_l_hand_fault : K.lookup f_hand_fault = some ⟨oc_hand_fault, od_hand_fault, .func (PySem.W.fnOf "hand_fault" "hand_fault" (defArgs s_hand_fault) (defBody s_hand_fault) (defScope s_hand_fault) .none kV_hand_fault dc_hand_fault pm_hand_fault an_hand_fault cd_hand_fault ct_hand_fault), sl_hand_fault⟩)
    (H_c_hand_fault : PySem.W.codeIn K cd_hand_fault "hand_fault" = true)
    (H_k_hand_fault : PySem.W.keepIn K (.ref f_hand_fault) = true)
    (H_a_again_fault : PySem.W.nsIn K mainGlobals "again_fault" = some (some (.ref f_again_fault)))
    (H_l_again_fault : K.lookup f_again_fault = some ⟨oc_again_fault, od_again_fault, .func (PySem.W.fnOf "again_fault" "again_fault" (defArgs s_again_fault) (defBody s_again_fault) (defScope s_again_fault) .none kV_again_fault dc_again_fault pm_again_fault an_again_fault cd_again_fault ct_again_fault), sl_again_fault⟩)
    (H_c_again_fault : PySem.W.codeIn K cd_again_fault "again_fault" = true)
    (H_k_again_fault : PySem.W.keepIn K (.ref f_again_fault) = true)
    (H_a_nobody_fault : PySem.W.nsIn K mainGlobals "nobody_fault" = some (some (.ref f_nobody_fault)))
    (H_l_nobody_fault : K.lookup f_nobody_fault = some ⟨oc_nobody_fault, od_nobody_fault, .func (PySem.W.fnOf "nobody_fault" "nobody_fault" (defArgs s_nobody_fault) (defBody s_nobody_fault) (defScope s_nobody_fault) .none kV_nobody_fault dc_nobody_fault pm_nobody_fault an_nobody_fault cd_nobody_fault ct_nobody_fault), sl_nobody_fault⟩)
    (H_c_nobody_fault : PySem.W.codeIn K cd_nobody_fault "nobody_fault" = true)
    (H_k_nobody_fault : PySem.W.keepIn K (.ref f_nobody_fault) = true)
    (H_a_early_fault : PySem.W.nsIn K mainGlobals "early_fault" = some (some (.ref f_early_fault)))
    (H_l_early_fault : K.lookup f_early_fault = some ⟨oc_early_fault, od_early_fault, .func (PySem.W.fnOf "early_fault" "early_fault" (defArgs s_early_fault) (defBody s_early_fault) (defScope s_early_fault) .none kV_early_fault dc_early_fault pm_early_fault an_early_fault cd_early_fault ct_early_fault), sl_early_fault⟩)
    (H_c_early_fault : PySem.W.codeIn K cd_early_fault "early_fault" = true)
    (H_k_early_fault : PySem.W.keepIn K (.ref f_early_fault) = true)
    (H_a_telling_fault : PySem.W.nsIn K mainGlobals "telling_fault" = some (some (.ref f_telling_fault)))
    (H_l_telling_fault : K.lookup f_telling_fault = some ⟨oc_telling_fault, od_telling_fault, .func (PySem.W.fnOf "telling_fault" "telling_fault" (defArgs s_telling_fault) (defBody s_telling_fault) (defScope s_telling_fault) .none kV_telling_fault dc_telling_fault pm_telling_fault an_telling_fault cd_telling_fault ct_telling_fault), sl_telling_fault⟩)
    (H_c_telling_fault : PySem.W.codeIn K cd_telling_fault "telling_fault" = true)
    (H_k_telling_fault : PySem.W.keepIn K (.ref f_telling_fault) = true)
    (H_a_is_near : PySem.W.nsIn K mainGlobals "is_near" = some (some (.ref f_is_near)))
    (H_l_is_near : K.lookup f_is_near = some ⟨oc_is_near, od_is_near, .func (PySem.W.fnOf "is_near" "is_near" (defArgs s_is_near) (defBody s_is_near) (defScope s_is_near) .none kV_is_near dc_is_near pm_is_near an_is_near cd_is_near ct_is_near), sl_is_near⟩)
    (H_c_is_near : PySem.W.codeIn K cd_is_near "is_near" = true)
    (H_k_is_near : PySem.W.keepIn K (.ref f_is_near) = true)
    (H_a_near_fault : PySem.W.nsIn K mainGlobals "near_fault" = some (some (.ref f_near_fault)))
    (H_l_near_fault : K.lookup f_near_fault = some ⟨oc_near_fault, od_near_fault, .func (PySem.W.fnOf "near_fault" "near_fault" (defArgs s_near_fault) (defBody s_near_fault) (defScope s_near_fault) .none kV_near_fault dc_near_fault pm_near_fault an_near_fault cd_near_fault ct_near_fault), sl_near_fault⟩)
    (H_c_near_fault : PySem.W.codeIn K cd_near_fault "near_fault" = true)
    (H_k_near_fault : PySem.W.keepIn K (.ref f_near_fault) = true)
    (H_a_Tree_init : PySem.W.findIn K (.ref c_Tree) "__init__" = some (some (.ref f_Tree_init)))
    (H_i_Tree_init : PySem.W.isFn K (.ref f_Tree_init) = true)
    (H_l_Tree_init : K.lookup f_Tree_init = some ⟨oc_Tree_init, od_Tree_init, .func (PySem.W.fnOf "__init__" "Tree.__init__" (defArgs s_Tree_init) (defBody s_Tree_init) (defScope s_Tree_init) .none kV_Tree_init dc_Tree_init pm_Tree_init an_Tree_init cd_Tree_init ct_Tree_init), sl_Tree_init⟩)
    (H_c_Tree_init : PySem.W.codeIn K cd_Tree_init "Tree.__init__" = true)
    (H_k_Tree_init : PySem.W.keepIn K (.ref f_Tree_init) = true)
    (H_a_time_of : PySem.W.nsIn K mainGlobals "time_of" = some (some (.ref f_time_of)))
    (H_l_time_of : K.lookup f_time_of = some ⟨oc_time_of, od_time_of, .func (PySem.W.fnOf "time_of" "time_of" (defArgs s_time_of) (defBody s_time_of) (defScope s_time_of) .none kV_time_of dc_time_of pm_time_of an_time_of cd_time_of ct_time_of), sl_time_of⟩)
    (H_c_time_of : PySem.W.codeIn K cd_time_of "time_of" = true)
    (H_k_time_of : PySem.W.keepIn K (.ref f_time_of) = true)
    (H_a_is_name : PySem.W.nsIn K mainGlobals "is_name" = some (some (.ref f_is_name)))
    (H_l_is_name : K.lookup f_is_name = some ⟨oc_is_name, od_is_name, .func (PySem.W.fnOf "is_name" "is_name" (defArgs s_is_name) (defBody s_is_name) (defScope s_is_name) .none (.ref D_is_name) dc_is_name pm_is_name an_is_name cd_is_name ct_is_name), sl_is_name⟩)
    (H_kw_is_name_turns : PySem.W.nsIn K D_is_name "turns" = some (some .none))
    (H_kw_is_name_roots : PySem.W.nsIn K D_is_name "roots" = some (some (.ref t_is_name_roots)))
    (H_tp_is_name_roots : K.lookup t_is_name_roots = some ⟨.type "tuple", td_is_name_roots, .seq #[.int 0 tk0_is_name_roots] tn_is_name_roots, ts_is_name_roots⟩)
    (H_c_is_name : PySem.W.codeIn K cd_is_name "is_name" = true)
    (H_k_is_name : PySem.W.keepIn K (.ref f_is_name) = true)
    (H_a_known_at : PySem.W.nsIn K mainGlobals "known_at" = some (some (.ref f_known_at)))
    (H_l_known_at : K.lookup f_known_at = some ⟨oc_known_at, od_known_at, .func (PySem.W.fnOf "known_at" "known_at" (defArgs s_known_at) (defBody s_known_at) (defScope s_known_at) .none (.ref D_known_at) dc_known_at pm_known_at an_known_at cd_known_at ct_known_at), sl_known_at⟩)
    (H_kw_known_at_turns : PySem.W.nsIn K D_known_at "turns" = some (some .none))
    (H_kw_known_at_roots : PySem.W.nsIn K D_known_at "roots" = some (some (.ref t_known_at_roots)))
    (H_tp_known_at_roots : K.lookup t_known_at_roots = some ⟨.type "tuple", td_known_at_roots, .seq #[.int 0 tk0_known_at_roots] tn_known_at_roots, ts_known_at_roots⟩)
    (H_c_known_at : PySem.W.codeIn K cd_known_at "known_at" = true)
    (H_k_known_at : PySem.W.keepIn K (.ref f_known_at) = true)
    (H_a_row_fault : PySem.W.nsIn K mainGlobals "row_fault" = some (some (.ref f_row_fault)))
    (H_l_row_fault : K.lookup f_row_fault = some ⟨oc_row_fault, od_row_fault, .func (PySem.W.fnOf "row_fault" "row_fault" (defArgs s_row_fault) (defBody s_row_fault) (defScope s_row_fault) .none kV_row_fault dc_row_fault pm_row_fault an_row_fault cd_row_fault ct_row_fault), sl_row_fault⟩)
    (H_c_row_fault : PySem.W.codeIn K cd_row_fault "row_fault" = true)
    (H_k_row_fault : PySem.W.keepIn K (.ref f_row_fault) = true)
    (H_a_fault : PySem.W.nsIn K mainGlobals "fault" = some (some (.ref f_fault)))
    (H_l_fault : K.lookup f_fault = some ⟨oc_fault, od_fault, .func (PySem.W.fnOf "fault" "fault" (defArgs s_fault) (defBody s_fault) (defScope s_fault) .none kV_fault dc_fault pm_fault an_fault cd_fault ct_fault), sl_fault⟩)
    (H_c_fault : PySem.W.codeIn K cd_fault "fault" = true)
    (H_k_fault : PySem.W.keepIn K (.ref f_fault) = true)
    (H_a_by_start : PySem.W.nsIn K mainGlobals "by_start" = some (some (.ref f_by_start)))
    (H_l_by_start : K.lookup f_by_start = some ⟨oc_by_start, od_by_start, .func (PySem.W.fnOf "by_start" "by_start" (defArgs s_by_start) (defBody s_by_start) (defScope s_by_start) .none kV_by_start dc_by_start pm_by_start an_by_start (.ref k_by_start) ct_by_start), sl_by_start⟩)
    (H_c_by_start : PySem.W.codeIn K (.ref k_by_start) "by_start" = true)
    (H_k_by_start : PySem.W.keepIn K (.ref f_by_start) = true)
    (H_a_with_starts : PySem.W.nsIn K mainGlobals "with_starts" = some (some (.ref f_with_starts)))
    (H_l_with_starts : K.lookup f_with_starts = some ⟨oc_with_starts, od_with_starts, .func (PySem.W.fnOf "with_starts" "with_starts" (defArgs s_with_starts) (defBody s_with_starts) (defScope s_with_starts) .none kV_with_starts dc_with_starts pm_with_starts an_with_starts cd_with_starts ct_with_starts), sl_with_starts⟩)
    (H_c_with_starts : PySem.W.codeIn K cd_with_starts "with_starts" = true)
    (H_k_with_starts : PySem.W.keepIn K (.ref f_with_starts) = true)
    (H_a_start_of : PySem.W.nsIn K mainGlobals "start_of" = some (some (.ref f_start_of)))
    (H_l_start_of : K.lookup f_start_of = some ⟨oc_start_of, od_start_of, .func (PySem.W.fnOf "start_of" "start_of" (defArgs s_start_of) (defBody s_start_of) (defScope s_start_of) .none kV_start_of dc_start_of pm_start_of an_start_of cd_start_of ct_start_of), sl_start_of⟩)
    (H_c_start_of : PySem.W.codeIn K cd_start_of "start_of" = true)
    (H_k_start_of : PySem.W.keepIn K (.ref f_start_of) = true)
    (H_a_names_of : PySem.W.nsIn K mainGlobals "names_of" = some (some (.ref f_names_of)))
    (H_l_names_of : K.lookup f_names_of = some ⟨oc_names_of, od_names_of, .func (PySem.W.fnOf "names_of" "names_of" (defArgs s_names_of) (defBody s_names_of) (defScope s_names_of) .none kV_names_of dc_names_of pm_names_of an_names_of cd_names_of ct_names_of), sl_names_of⟩)
    (H_c_names_of : PySem.W.codeIn K cd_names_of "names_of" = true)
    (H_k_names_of : PySem.W.keepIn K (.ref f_names_of) = true)
    (H_a_earliest : PySem.W.nsIn K mainGlobals "earliest" = some (some (.ref f_earliest)))
    (H_l_earliest : K.lookup f_earliest = some ⟨oc_earliest, od_earliest, .func (PySem.W.fnOf "earliest" "earliest" (defArgs s_earliest) (defBody s_earliest) (defScope s_earliest) .none kV_earliest dc_earliest pm_earliest an_earliest cd_earliest ct_earliest), sl_earliest⟩)
    (H_c_earliest : PySem.W.codeIn K cd_earliest "earliest" = true)
    (H_k_earliest : PySem.W.keepIn K (.ref f_earliest) = true)
    (H_a_check_names : PySem.W.nsIn K mainGlobals "check_names" = some (some (.ref f_check_names)))
    (H_l_check_names : K.lookup f_check_names = some ⟨oc_check_names, od_check_names, .func (PySem.W.fnOf "check_names" "check_names" (defArgs s_check_names) (defBody s_check_names) (defScope s_check_names) .none kV_check_names dc_check_names pm_check_names an_check_names cd_check_names ct_check_names), sl_check_names⟩)
    (H_c_check_names : PySem.W.codeIn K cd_check_names "check_names" = true)
    (H_k_check_names : PySem.W.keepIn K (.ref f_check_names) = true)
    (H_a_plan_of : PySem.W.nsIn K mainGlobals "plan_of" = some (some (.ref f_plan_of)))
    (H_l_plan_of : K.lookup f_plan_of = some ⟨oc_plan_of, od_plan_of, .func (PySem.W.fnOf "plan_of" "plan_of" (defArgs s_plan_of) (defBody s_plan_of) (defScope s_plan_of) .none kV_plan_of dc_plan_of pm_plan_of an_plan_of cd_plan_of ct_plan_of), sl_plan_of⟩)
    (H_c_plan_of : PySem.W.codeIn K cd_plan_of "plan_of" = true)
    (H_k_plan_of : PySem.W.keepIn K (.ref f_plan_of) = true)
    (H_a_Machine_init : PySem.W.findIn K (.ref c_Machine) "__init__" = some (some (.ref f_Machine_init)))
    (H_i_Machine_init : PySem.W.isFn K (.ref f_Machine_init) = true)
    (H_l_Machine_init : K.lookup f_Machine_init = some ⟨oc_Machine_init, od_Machine_init, .func (PySem.W.fnOf "__init__" "Machine.__init__" (defArgs s_Machine_init) (defBody s_Machine_init) (defScope s_Machine_init) .none kV_Machine_init dc_Machine_init pm_Machine_init an_Machine_init cd_Machine_init ct_Machine_init), sl_Machine_init⟩)
    (H_c_Machine_init : PySem.W.codeIn K cd_Machine_init "Machine.__init__" = true)
    (H_k_Machine_init : PySem.W.keepIn K (.ref f_Machine_init) = true)
    (H_a__law_source : PySem.W.nsIn K mainGlobals "_law_source" = some (some (.ref f__law_source)))
    (H_l__law_source : K.lookup f__law_source = some ⟨oc__law_source, od__law_source, .func (PySem.W.fnOf "_law_source" "_law_source" (defArgs s__law_source) (defBody s__law_source) (defScope s__law_source) .none kV__law_source dc__law_source pm__law_source an__law_source cd__law_source ct__law_source), sl__law_source⟩)
    (H_c__law_source : PySem.W.codeIn K cd__law_source "_law_source" = true)
    (H_k__law_source : PySem.W.keepIn K (.ref f__law_source) = true)
    (H_a__law_draw : PySem.W.nsIn K mainGlobals "_law_draw" = some (some (.ref f__law_draw)))
    (H_l__law_draw : K.lookup f__law_draw = some ⟨oc__law_draw, od__law_draw, .func (PySem.W.fnOf "_law_draw" "_law_draw" (defArgs s__law_draw) (defBody s__law_draw) (defScope s__law_draw) .none kV__law_draw dc__law_draw pm__law_draw an__law_draw cd__law_draw ct__law_draw), sl__law_draw⟩)
    (H_c__law_draw : PySem.W.codeIn K cd__law_draw "_law_draw" = true)
    (H_k__law_draw : PySem.W.keepIn K (.ref f__law_draw) = true)
    (H_a__law_big : PySem.W.nsIn K mainGlobals "_law_big" = some (some (.ref f__law_big)))
    (H_l__law_big : K.lookup f__law_big = some ⟨oc__law_big, od__law_big, .func (PySem.W.fnOf "_law_big" "_law_big" (defArgs s__law_big) (defBody s__law_big) (defScope s__law_big) .none kV__law_big dc__law_big pm__law_big an__law_big cd__law_big ct__law_big), sl__law_big⟩)
    (H_c__law_big : PySem.W.codeIn K cd__law_big "_law_big" = true)
    (H_k__law_big : PySem.W.keepIn K (.ref f__law_big) = true)
    (H_a__law_numbers : PySem.W.nsIn K mainGlobals "_law_numbers" = some (some (.ref f__law_numbers)))
    (H_l__law_numbers : K.lookup f__law_numbers = some ⟨oc__law_numbers, od__law_numbers, .func (PySem.W.fnOf "_law_numbers" "_law_numbers" (defArgs s__law_numbers) (defBody s__law_numbers) (defScope s__law_numbers) .none kV__law_numbers dc__law_numbers pm__law_numbers an__law_numbers cd__law_numbers ct__law_numbers), sl__law_numbers⟩)
    (H_c__law_numbers : PySem.W.codeIn K cd__law_numbers "_law_numbers" = true)
    (H_k__law_numbers : PySem.W.keepIn K (.ref f__law_numbers) = true)
    (H_a__law_times : PySem.W.nsIn K mainGlobals "_law_times" = some (some (.ref f__law_times)))
    (H_l__law_times : K.lookup f__law_times = some ⟨oc__law_times, od__law_times, .func (PySem.W.fnOf "_law_times" "_law_times" (defArgs s__law_times) (defBody s__law_times) (defScope s__law_times) .none kV__law_times dc__law_times pm__law_times an__law_times cd__law_times ct__law_times), sl__law_times⟩)
    (H_c__law_times : PySem.W.codeIn K cd__law_times "_law_times" = true)
    (H_k__law_times : PySem.W.keepIn K (.ref f__law_times) = true)
    (H_a__law_is : PySem.W.nsIn K mainGlobals "_law_is" = some (some (.ref f__law_is)))
    (H_l__law_is : K.lookup f__law_is = some ⟨oc__law_is, od__law_is, .func (PySem.W.fnOf "_law_is" "_law_is" (defArgs s__law_is) (defBody s__law_is) (defScope s__law_is) .none kV__law_is dc__law_is pm__law_is an__law_is cd__law_is ct__law_is), sl__law_is⟩)
    (H_c__law_is : PySem.W.codeIn K cd__law_is "_law_is" = true)
    (H_k__law_is : PySem.W.keepIn K (.ref f__law_is) = true)
    (H_a__law_same_names : PySem.W.nsIn K mainGlobals "_law_same_names" = some (some (.ref f__law_same_names)))
    (H_l__law_same_names : K.lookup f__law_same_names = some ⟨oc__law_same_names, od__law_same_names, .func (PySem.W.fnOf "_law_same_names" "_law_same_names" (defArgs s__law_same_names) (defBody s__law_same_names) (defScope s__law_same_names) .none kV__law_same_names dc__law_same_names pm__law_same_names an__law_same_names cd__law_same_names ct__law_same_names), sl__law_same_names⟩)
    (H_c__law_same_names : PySem.W.codeIn K cd__law_same_names "_law_same_names" = true)
    (H_k__law_same_names : PySem.W.keepIn K (.ref f__law_same_names) = true)
    (H_a__law_plan : PySem.W.nsIn K mainGlobals "_law_plan" = some (some (.ref f__law_plan)))
    (H_l__law_plan : K.lookup f__law_plan = some ⟨oc__law_plan, od__law_plan, .func (PySem.W.fnOf "_law_plan" "_law_plan" (defArgs s__law_plan) (defBody s__law_plan) (defScope s__law_plan) .none kV__law_plan dc__law_plan pm__law_plan an__law_plan cd__law_plan ct__law_plan), sl__law_plan⟩)
    (H_c__law_plan : PySem.W.codeIn K cd__law_plan "_law_plan" = true)
    (H_k__law_plan : PySem.W.keepIn K (.ref f__law_plan) = true)
    (H_a__law_same_rows : PySem.W.nsIn K mainGlobals "_law_same_rows" = some (some (.ref f__law_same_rows)))
    (H_l__law_same_rows : K.lookup f__law_same_rows = some ⟨oc__law_same_rows, od__law_same_rows, .func (PySem.W.fnOf "_law_same_rows" "_law_same_rows" (defArgs s__law_same_rows) (defBody s__law_same_rows) (defScope s__law_same_rows) .none kV__law_same_rows dc__law_same_rows pm__law_same_rows an__law_same_rows cd__law_same_rows ct__law_same_rows), sl__law_same_rows⟩)
    (H_c__law_same_rows : PySem.W.codeIn K cd__law_same_rows "_law_same_rows" = true)
    (H_k__law_same_rows : PySem.W.keepIn K (.ref f__law_same_rows) = true)
    (H_a__law_called : PySem.W.nsIn K mainGlobals "_law_called" = some (some (.ref f__law_called)))
    (H_l__law_called : K.lookup f__law_called = some ⟨oc__law_called, od__law_called, .func (PySem.W.fnOf "_law_called" "_law_called" (defArgs s__law_called) (defBody s__law_called) (defScope s__law_called) .none kV__law_called dc__law_called pm__law_called an__law_called cd__law_called ct__law_called), sl__law_called⟩)
    (H_c__law_called : PySem.W.codeIn K cd__law_called "_law_called" = true)
    (H_k__law_called : PySem.W.keepIn K (.ref f__law_called) = true)
    (H_a_law : PySem.W.nsIn K mainGlobals "law" = some (some (.ref f_law)))
    (H_l_law : K.lookup f_law = some ⟨oc_law, od_law, .func (PySem.W.fnOf "law" "law" (defArgs s_law) (defBody s_law) (defScope s_law) .none kV_law dc_law pm_law an_law cd_law ct_law), sl_law⟩)
    (H_c_law : PySem.W.codeIn K cd_law "law" = true)
    (H_k_law : PySem.W.keepIn K (.ref f_law) = true)
    (H_pg_Tree : PySem.W.plainGet K c_Tree Str.empty = true)
    (H_hd_Tree : PySem.W.hasDictIn K c_Tree = true)
    (H_po_Tree : PySem.W.plainOver K c_Tree = true)
    (H_sa_Tree : PySem.W.findIn K (.ref c_Tree) "__setattr__" = some (some (.builtin "object.__setattr__")))
    (H_mk_Tree : PySem.W.makesIn K c_Tree = true)
    (H_kc_Tree : PySem.W.keepIn K (.ref c_Tree) = true)
    (H_nF_Tree_letter : PySem.W.findIn K (.ref c_Tree) "letter" = some none)
    (H_nF_Tree_gap : PySem.W.findIn K (.ref c_Tree) "gap" = some none)
    (H_nF_Tree_turns : PySem.W.findIn K (.ref c_Tree) "turns" = some none)
    (H_nF_Tree_roots : PySem.W.findIn K (.ref c_Tree) "roots" = some none)
    (H_nF_Tree_horizon : PySem.W.findIn K (.ref c_Tree) "horizon" = some none)
    (H_nF_Tree_powers : PySem.W.findIn K (.ref c_Tree) "powers" = some none)
    (H_pg_Machine : PySem.W.plainGet K c_Machine Str.empty = true)
    (H_hd_Machine : PySem.W.hasDictIn K c_Machine = true)
    (H_po_Machine : PySem.W.plainOver K c_Machine = true)
    (H_sa_Machine : PySem.W.findIn K (.ref c_Machine) "__setattr__" = some (some (.builtin "object.__setattr__")))
    (H_mk_Machine : PySem.W.makesIn K c_Machine = true)
    (H_kc_Machine : PySem.W.keepIn K (.ref c_Machine) = true)
    (H_nF_Machine_o : PySem.W.findIn K (.ref c_Machine) "o" = some none)
    (H_nF_Machine_l : PySem.W.findIn K (.ref c_Machine) "l" = some none)
    (H_nF_Machine_g : PySem.W.findIn K (.ref c_Machine) "g" = some none)
    (H_nF_Machine_letter : PySem.W.findIn K (.ref c_Machine) "letter" = some none)
    (H_nF_Machine_gap : PySem.W.findIn K (.ref c_Machine) "gap" = some none)
    (H_n_abs : PySem.W.nsIn K mainGlobals "abs" = some none)
    (H_n_all : PySem.W.nsIn K mainGlobals "all" = some none)
    (H_n_bool : PySem.W.nsIn K mainGlobals "bool" = some none)
    (H_n_enumerate : PySem.W.nsIn K mainGlobals "enumerate" = some none)
    (H_n_int : PySem.W.nsIn K mainGlobals "int" = some none)
    (H_n_isinstance : PySem.W.nsIn K mainGlobals "isinstance" = some none)
    (H_n_len : PySem.W.nsIn K mainGlobals "len" = some none)
    (H_n_list : PySem.W.nsIn K mainGlobals "list" = some none)
    (H_n_max : PySem.W.nsIn K mainGlobals "max" = some none)
    (H_n_range : PySem.W.nsIn K mainGlobals "range" = some none)
    (H_n_set : PySem.W.nsIn K mainGlobals "set" = some none)
    (H_n_sorted : PySem.W.nsIn K mainGlobals "sorted" = some none)
    (H_n_sum : PySem.W.nsIn K mainGlobals "sum" = some none)
    (H_n_tuple : PySem.W.nsIn K mainGlobals "tuple" = some none)
    (H_x_MOST_TURNS : PySem.W.nsIn K mainGlobals "MOST_TURNS" = some (some (.int 1000000000000 t_MOST_TURNS)))
    (H_x_MOST_ROOTS : PySem.W.nsIn K mainGlobals "MOST_ROOTS" = some (some (.int 6 t_MOST_ROOTS)))
    (H_x_LATEST_ROOT : PySem.W.nsIn K mainGlobals "LATEST_ROOT" = some (some (.int 1000000000000 t_LATEST_ROOT)))
    (H_x_LONGEST_NAME : PySem.W.nsIn K mainGlobals "LONGEST_NAME" = some (some (.int 200 t_LONGEST_NAME)))
    (H_x_GREATEST_ITEM : PySem.W.nsIn K mainGlobals "GREATEST_ITEM" = some (some (.int 1000000000000000 t_GREATEST_ITEM)))
    (H_x_MOST_PLANNED : PySem.W.nsIn K mainGlobals "MOST_PLANNED" = some (some (.int 100 t_MOST_PLANNED)))
    (H_x_MOST_ROWS : PySem.W.nsIn K mainGlobals "MOST_ROWS" = some (some (.int 400 t_MOST_ROWS)))
    (H_x_LATEST_START : PySem.W.nsIn K mainGlobals "LATEST_START" = some (some (.int 1000000000000000 t_LATEST_START)))
    (H_x_FREE_DEPTHS : PySem.W.nsIn K mainGlobals "FREE_DEPTHS" = some (some (.int 120 t_FREE_DEPTHS)))
    (H_x_TURNS_DEPTHS : PySem.W.nsIn K mainGlobals "TURNS_DEPTHS" = some (some (.int 40 t_TURNS_DEPTHS)))
    (H_x_GREATEST_PART : PySem.W.nsIn K mainGlobals "GREATEST_PART" = some (some (.int 1000000000 t_GREATEST_PART)))
    (H_kl_by_start : K.lookup k_by_start = some ⟨kc_by_start, kd_by_start, .fields kvs_by_start, ksl_by_start⟩)
    (H_kt_by_start : kvs_by_start[11]? = some (.ref tb_by_start))
    (H_kh_by_start : PySem.W.codeHdIn K k_by_start tb_by_start = true)
    (H_kn_by_start : K.lookup tb_by_start = none)
    (H_kg_by_start : h.get? tb_by_start = some { cls := .none, data := .fields #[] })
    : LamX.LawAtS l w K CX0 12 63 "_law_script" mg fa h := by
  have e := hfa.symm.trans (PySem.W.mg_of X G H_a_law)
  cases e
  letI tn : Tn := ⟨[(tb_by_start, (("by_start" ++ ".<locals>." : Str) ++ "<lambda>"))]⟩
  let a : Adr := { a_is_integer := f_is_integer, d_is_integer := PySem.W.fnOf "is_integer" "is_integer" (defArgs s_is_integer) (defBody s_is_integer) (defScope s_is_integer) .none kV_is_integer dc_is_integer pm_is_integer an_is_integer cd_is_integer ct_is_integer, a_is_between := f_is_between, d_is_between := PySem.W.fnOf "is_between" "is_between" (defArgs s_is_between) (defBody s_is_between) (defScope s_is_between) .none kV_is_between dc_is_between pm_is_between an_is_between cd_is_between ct_is_between, a_check_turns := f_check_turns, d_check_turns := PySem.W.fnOf "check_turns" "check_turns" (defArgs s_check_turns) (defBody s_check_turns) (defScope s_check_turns) .none kV_check_turns dc_check_turns pm_check_turns an_check_turns cd_check_turns ct_check_turns, a_check_roots := f_check_roots, d_check_roots := PySem.W.fnOf "check_roots" "check_roots" (defArgs s_check_roots) (defBody s_check_roots) (defScope s_check_roots) .none kV_check_roots dc_check_roots pm_check_roots an_check_roots cd_check_roots ct_check_roots, a_check_count := f_check_count, d_check_count := PySem.W.fnOf "check_count" "check_count" (defArgs s_check_count) (defBody s_check_count) (defScope s_check_count) .none kV_check_count dc_check_count pm_check_count an_check_count cd_check_count ct_check_count, a_wrong_in_name := f_wrong_in_name, d_wrong_in_name := PySem.W.fnOf "wrong_in_name" "wrong_in_name" (defArgs s_wrong_in_name) (defBody s_wrong_in_name) (defScope s_wrong_in_name) .none kV_wrong_in_name dc_wrong_in_name pm_wrong_in_name an_wrong_in_name cd_wrong_in_name ct_wrong_in_name, a_check_name := f_check_name, d_check_name := PySem.W.fnOf "check_name" "check_name" (defArgs s_check_name) (defBody s_check_name) (defScope s_check_name) .none kV_check_name dc_check_name pm_check_name an_check_name cd_check_name ct_check_name, a_refuse := f_refuse, d_refuse := PySem.W.fnOf "refuse" "refuse" (defArgs s_refuse) (defBody s_refuse) (defScope s_refuse) .none kV_refuse dc_refuse pm_refuse an_refuse cd_refuse ct_refuse, a_is_row := f_is_row, d_is_row := PySem.W.fnOf "is_row" "is_row" (defArgs s_is_row) (defBody s_is_row) (defScope s_is_row) .none kV_is_row dc_is_row pm_is_row an_is_row cd_is_row ct_is_row, a_form_fault := f_form_fault, d_form_fault := PySem.W.fnOf "form_fault" "form_fault" (defArgs s_form_fault) (defBody s_form_fault) (defScope s_form_fault) .none kV_form_fault dc_form_fault pm_form_fault an_form_fault cd_form_fault ct_form_fault, a_hand_fault := f_hand_fault, d_hand_fault := PySem.W.fnOf "hand_fault" "hand_fault" (defArgs s_hand_fault) (defBody s_hand_fault) (defScope s_hand_fault) .none kV_hand_fault dc_hand_fault pm_hand_fault an_hand_fault cd_hand_fault ct_hand_fault, a_again_fault := f_again_fault, d_again_fault := PySem.W.fnOf "again_fault" "again_fault" (defArgs s_again_fault) (defBody s_again_fault) (defScope s_again_fault) .none kV_again_fault dc_again_fault pm_again_fault an_again_fault cd_again_fault ct_again_fault, a_nobody_fault := f_nobody_fault, d_nobody_fault := PySem.W.fnOf "nobody_fault" "nobody_fault" (defArgs s_nobody_fault) (defBody s_nobody_fault) (defScope s_nobody_fault) .none kV_nobody_fault dc_nobody_fault pm_nobody_fault an_nobody_fault cd_nobody_fault ct_nobody_fault, a_early_fault := f_early_fault, d_early_fault := PySem.W.fnOf "early_fault" "early_fault" (defArgs s_early_fault) (defBody s_early_fault) (defScope s_early_fault) .none kV_early_fault dc_early_fault pm_early_fault an_early_fault cd_early_fault ct_early_fault, a_telling_fault := f_telling_fault, d_telling_fault := PySem.W.fnOf "telling_fault" "telling_fault" (defArgs s_telling_fault) (defBody s_telling_fault) (defScope s_telling_fault) .none kV_telling_fault dc_telling_fault pm_telling_fault an_telling_fault cd_telling_fault ct_telling_fault, a_is_near := f_is_near, d_is_near := PySem.W.fnOf "is_near" "is_near" (defArgs s_is_near) (defBody s_is_near) (defScope s_is_near) .none kV_is_near dc_is_near pm_is_near an_is_near cd_is_near ct_is_near, a_near_fault := f_near_fault, d_near_fault := PySem.W.fnOf "near_fault" "near_fault" (defArgs s_near_fault) (defBody s_near_fault) (defScope s_near_fault) .none kV_near_fault dc_near_fault pm_near_fault an_near_fault cd_near_fault ct_near_fault, a_Tree_init := f_Tree_init, d_Tree_init := PySem.W.fnOf "__init__" "Tree.__init__" (defArgs s_Tree_init) (defBody s_Tree_init) (defScope s_Tree_init) .none kV_Tree_init dc_Tree_init pm_Tree_init an_Tree_init cd_Tree_init ct_Tree_init, a_time_of := f_time_of, d_time_of := PySem.W.fnOf "time_of" "time_of" (defArgs s_time_of) (defBody s_time_of) (defScope s_time_of) .none kV_time_of dc_time_of pm_time_of an_time_of cd_time_of ct_time_of, a_is_name := f_is_name, d_is_name := PySem.W.fnOf "is_name" "is_name" (defArgs s_is_name) (defBody s_is_name) (defScope s_is_name) .none (.ref D_is_name) dc_is_name pm_is_name an_is_name cd_is_name ct_is_name, t_is_name_roots := t_is_name_roots, a_known_at := f_known_at, d_known_at := PySem.W.fnOf "known_at" "known_at" (defArgs s_known_at) (defBody s_known_at) (defScope s_known_at) .none (.ref D_known_at) dc_known_at pm_known_at an_known_at cd_known_at ct_known_at, t_known_at_roots := t_known_at_roots, a_row_fault := f_row_fault, d_row_fault := PySem.W.fnOf "row_fault" "row_fault" (defArgs s_row_fault) (defBody s_row_fault) (defScope s_row_fault) .none kV_row_fault dc_row_fault pm_row_fault an_row_fault cd_row_fault ct_row_fault, a_fault := f_fault, d_fault := PySem.W.fnOf "fault" "fault" (defArgs s_fault) (defBody s_fault) (defScope s_fault) .none kV_fault dc_fault pm_fault an_fault cd_fault ct_fault, a_by_start := f_by_start, d_by_start := PySem.W.fnOf "by_start" "by_start" (defArgs s_by_start) (defBody s_by_start) (defScope s_by_start) .none kV_by_start dc_by_start pm_by_start an_by_start (.ref k_by_start) ct_by_start, a_with_starts := f_with_starts, d_with_starts := PySem.W.fnOf "with_starts" "with_starts" (defArgs s_with_starts) (defBody s_with_starts) (defScope s_with_starts) .none kV_with_starts dc_with_starts pm_with_starts an_with_starts cd_with_starts ct_with_starts, a_start_of := f_start_of, d_start_of := PySem.W.fnOf "start_of" "start_of" (defArgs s_start_of) (defBody s_start_of) (defScope s_start_of) .none kV_start_of dc_start_of pm_start_of an_start_of cd_start_of ct_start_of, a_names_of := f_names_of, d_names_of := PySem.W.fnOf "names_of" "names_of" (defArgs s_names_of) (defBody s_names_of) (defScope s_names_of) .none kV_names_of dc_names_of pm_names_of an_names_of cd_names_of ct_names_of, a_earliest := f_earliest, d_earliest := PySem.W.fnOf "earliest" "earliest" (defArgs s_earliest) (defBody s_earliest) (defScope s_earliest) .none kV_earliest dc_earliest pm_earliest an_earliest cd_earliest ct_earliest, a_check_names := f_check_names, d_check_names := PySem.W.fnOf "check_names" "check_names" (defArgs s_check_names) (defBody s_check_names) (defScope s_check_names) .none kV_check_names dc_check_names pm_check_names an_check_names cd_check_names ct_check_names, a_plan_of := f_plan_of, d_plan_of := PySem.W.fnOf "plan_of" "plan_of" (defArgs s_plan_of) (defBody s_plan_of) (defScope s_plan_of) .none kV_plan_of dc_plan_of pm_plan_of an_plan_of cd_plan_of ct_plan_of, a_Machine_init := f_Machine_init, d_Machine_init := PySem.W.fnOf "__init__" "Machine.__init__" (defArgs s_Machine_init) (defBody s_Machine_init) (defScope s_Machine_init) .none kV_Machine_init dc_Machine_init pm_Machine_init an_Machine_init cd_Machine_init ct_Machine_init, a__law_source := f__law_source, d__law_source := PySem.W.fnOf "_law_source" "_law_source" (defArgs s__law_source) (defBody s__law_source) (defScope s__law_source) .none kV__law_source dc__law_source pm__law_source an__law_source cd__law_source ct__law_source, a__law_draw := f__law_draw, d__law_draw := PySem.W.fnOf "_law_draw" "_law_draw" (defArgs s__law_draw) (defBody s__law_draw) (defScope s__law_draw) .none kV__law_draw dc__law_draw pm__law_draw an__law_draw cd__law_draw ct__law_draw, a__law_big := f__law_big, d__law_big := PySem.W.fnOf "_law_big" "_law_big" (defArgs s__law_big) (defBody s__law_big) (defScope s__law_big) .none kV__law_big dc__law_big pm__law_big an__law_big cd__law_big ct__law_big, a__law_numbers := f__law_numbers, d__law_numbers := PySem.W.fnOf "_law_numbers" "_law_numbers" (defArgs s__law_numbers) (defBody s__law_numbers) (defScope s__law_numbers) .none kV__law_numbers dc__law_numbers pm__law_numbers an__law_numbers cd__law_numbers ct__law_numbers, a__law_times := f__law_times, d__law_times := PySem.W.fnOf "_law_times" "_law_times" (defArgs s__law_times) (defBody s__law_times) (defScope s__law_times) .none kV__law_times dc__law_times pm__law_times an__law_times cd__law_times ct__law_times, a__law_is := f__law_is, d__law_is := PySem.W.fnOf "_law_is" "_law_is" (defArgs s__law_is) (defBody s__law_is) (defScope s__law_is) .none kV__law_is dc__law_is pm__law_is an__law_is cd__law_is ct__law_is, a__law_same_names := f__law_same_names, d__law_same_names := PySem.W.fnOf "_law_same_names" "_law_same_names" (defArgs s__law_same_names) (defBody s__law_same_names) (defScope s__law_same_names) .none kV__law_same_names dc__law_same_names pm__law_same_names an__law_same_names cd__law_same_names ct__law_same_names, a__law_plan := f__law_plan, d__law_plan := PySem.W.fnOf "_law_plan" "_law_plan" (defArgs s__law_plan) (defBody s__law_plan) (defScope s__law_plan) .none kV__law_plan dc__law_plan pm__law_plan an__law_plan cd__law_plan ct__law_plan, a__law_same_rows := f__law_same_rows, d__law_same_rows := PySem.W.fnOf "_law_same_rows" "_law_same_rows" (defArgs s__law_same_rows) (defBody s__law_same_rows) (defScope s__law_same_rows) .none kV__law_same_rows dc__law_same_rows pm__law_same_rows an__law_same_rows cd__law_same_rows ct__law_same_rows, a__law_called := f__law_called, d__law_called := PySem.W.fnOf "_law_called" "_law_called" (defArgs s__law_called) (defBody s__law_called) (defScope s__law_called) .none kV__law_called dc__law_called pm__law_called an__law_called cd__law_called ct__law_called, a_law := fa, d_law := PySem.W.fnOf "law" "law" (defArgs s_law) (defBody s_law) (defScope s_law) .none kV_law dc_law pm_law an_law cd_law ct_law, c_Tree := c_Tree, c_Machine := c_Machine, k_by_start := k_by_start, tb_by_start := tb_by_start }
  have F_is_integer := fun_mk (st := s_is_integer) H_l_is_integer H_c_is_integer H_k_is_integer
  have F_is_between := fun_mk (st := s_is_between) H_l_is_between H_c_is_between H_k_is_between
  have F_check_turns := fun_mk (st := s_check_turns) H_l_check_turns H_c_check_turns H_k_check_turns
  have F_check_roots := fun_mk (st := s_check_roots) H_l_check_roots H_c_check_roots H_k_check_roots
  have F_check_count := fun_mk (st := s_check_count) H_l_check_count H_c_check_count H_k_check_count
  have F_wrong_in_name := fun_mk (st := s_wrong_in_name) H_l_wrong_in_name H_c_wrong_in_name H_k_wrong_in_name
  have F_check_name := fun_mk (st := s_check_name) H_l_check_name H_c_check_name H_k_check_name
  have F_refuse := fun_mk (st := s_refuse) H_l_refuse H_c_refuse H_k_refuse
  have F_is_row := fun_mk (st := s_is_row) H_l_is_row H_c_is_row H_k_is_row
  have F_form_fault := fun_mk (st := s_form_fault) H_l_form_fault H_c_form_fault H_k_form_fault
  have F_hand_fault := fun_mk (st := s_hand_fault) H_l_hand_fault H_c_hand_fault H_k_hand_fault
  have F_again_fault := fun_mk (st := s_again_fault) H_l_again_fault H_c_again_fault H_k_again_fault
  have F_nobody_fault := fun_mk (st := s_nobody_fault) H_l_nobody_fault H_c_nobody_fault H_k_nobody_fault
  have F_early_fault := fun_mk (st := s_early_fault) H_l_early_fault H_c_early_fault H_k_early_fault
  have F_telling_fault := fun_mk (st := s_telling_fault) H_l_telling_fault H_c_telling_fault H_k_telling_fault
  have F_is_near := fun_mk (st := s_is_near) H_l_is_near H_c_is_near H_k_is_near
  have F_near_fault := fun_mk (st := s_near_fault) H_l_near_fault H_c_near_fault H_k_near_fault
  have F_Tree_init := fun_mk (st := s_Tree_init) H_l_Tree_init H_c_Tree_init H_k_Tree_init
  have F_time_of := fun_mk (st := s_time_of) H_l_time_of H_c_time_of H_k_time_of
  have F_is_name : FunD K "is_name" "is_name" (defArgs s_is_name) (defBody s_is_name) (defScope s_is_name) [] [("turns", .non), ("roots", .ref t_is_name_roots)] f_is_name (PySem.W.fnOf "is_name" "is_name" (defArgs s_is_name) (defBody s_is_name) (defScope s_is_name) .none (.ref D_is_name) dc_is_name pm_is_name an_is_name cd_is_name ct_is_name) :=
    ⟨⟨_, _, .none, .ref D_is_name, _, _, _, _, _, _, rfl, H_l_is_name, H_c_is_name, .inl ⟨rfl, rfl⟩, .inr ⟨D_is_name, rfl, fun q hq => by
      simp only [List.mem_cons, List.not_mem_nil, or_false] at hq
      rcases hq with rfl | rfl
      · exact ⟨.none, H_kw_is_name_turns, rfl⟩
      · exact ⟨.ref t_is_name_roots, H_kw_is_name_roots, rfl⟩
      ⟩⟩, H_k_is_name⟩
  have F_known_at : FunD K "known_at" "known_at" (defArgs s_known_at) (defBody s_known_at) (defScope s_known_at) [] [("turns", .non), ("roots", .ref t_known_at_roots)] f_known_at (PySem.W.fnOf "known_at" "known_at" (defArgs s_known_at) (defBody s_known_at) (defScope s_known_at) .none (.ref D_known_at) dc_known_at pm_known_at an_known_at cd_known_at ct_known_at) :=
    ⟨⟨_, _, .none, .ref D_known_at, _, _, _, _, _, _, rfl, H_l_known_at, H_c_known_at, .inl ⟨rfl, rfl⟩, .inr ⟨D_known_at, rfl, fun q hq => by
      simp only [List.mem_cons, List.not_mem_nil, or_false] at hq
      rcases hq with rfl | rfl
      · exact ⟨.none, H_kw_known_at_turns, rfl⟩
      · exact ⟨.ref t_known_at_roots, H_kw_known_at_roots, rfl⟩
      ⟩⟩, H_k_known_at⟩
  have F_row_fault := fun_mk (st := s_row_fault) H_l_row_fault H_c_row_fault H_k_row_fault
  have F_fault := fun_mk (st := s_fault) H_l_fault H_c_fault H_k_fault
  have F_by_start := func_mk (st := s_by_start) H_l_by_start H_c_by_start H_k_by_start
  have F_with_starts := fun_mk (st := s_with_starts) H_l_with_starts H_c_with_starts H_k_with_starts
  have F_start_of := fun_mk (st := s_start_of) H_l_start_of H_c_start_of H_k_start_of
  have F_names_of := fun_mk (st := s_names_of) H_l_names_of H_c_names_of H_k_names_of
  have F_earliest := fun_mk (st := s_earliest) H_l_earliest H_c_earliest H_k_earliest
  have F_check_names := fun_mk (st := s_check_names) H_l_check_names H_c_check_names H_k_check_names
  have F_plan_of := fun_mk (st := s_plan_of) H_l_plan_of H_c_plan_of H_k_plan_of
  have F_Machine_init := fun_mk (st := s_Machine_init) H_l_Machine_init H_c_Machine_init H_k_Machine_init
  have F__law_source := fun_mk (st := s__law_source) H_l__law_source H_c__law_source H_k__law_source
  have F__law_draw := fun_mk (st := s__law_draw) H_l__law_draw H_c__law_draw H_k__law_draw
  have F__law_big := fun_mk (st := s__law_big) H_l__law_big H_c__law_big H_k__law_big
  have F__law_numbers := fun_mk (st := s__law_numbers) H_l__law_numbers H_c__law_numbers H_k__law_numbers
  have F__law_times := fun_mk (st := s__law_times) H_l__law_times H_c__law_times H_k__law_times
  have F__law_is := fun_mk (st := s__law_is) H_l__law_is H_c__law_is H_k__law_is
  have F__law_same_names := fun_mk (st := s__law_same_names) H_l__law_same_names H_c__law_same_names H_k__law_same_names
  have F__law_plan := fun_mk (st := s__law_plan) H_l__law_plan H_c__law_plan H_k__law_plan
  have F__law_same_rows := fun_mk (st := s__law_same_rows) H_l__law_same_rows H_c__law_same_rows H_k__law_same_rows
  have F__law_called := fun_mk (st := s__law_called) H_l__law_called H_c__law_called H_k__law_called
  have F_law := fun_mk (st := s_law) H_l_law H_c_law H_k_law
  have T : ∀ base : Heap, (∀ p ∈ ([(k_by_start, tb_by_start)] : List (Addr × Addr)), LamX.TabB base mg p.1 p.2) → Txt K mg base a := fun base hB => {
    F_is_integer := F_is_integer,
    b_is_integer := F_is_integer.binds (ps := ["thing"]) fun _ _ _ _ _ _ us hl => match us, hl with | [_], _ => rfl,
    g_is_integer := PySem.W.mg_of X G H_a_is_integer,
    F_is_between := F_is_between,
    b_is_between := F_is_between.binds (ps := ["thing", "low", "high"]) fun _ _ _ _ _ _ us hl => match us, hl with | [_, _, _], _ => rfl,
    g_is_between := PySem.W.mg_of X G H_a_is_between,
    F_check_turns := F_check_turns,
    b_check_turns := F_check_turns.binds (ps := ["turns"]) fun _ _ _ _ _ _ us hl => match us, hl with | [_], _ => rfl,
    g_check_turns := PySem.W.mg_of X G H_a_check_turns,
    F_check_roots := F_check_roots,
    b_check_roots := F_check_roots.binds (ps := ["roots"]) fun _ _ _ _ _ _ us hl => match us, hl with | [_], _ => rfl,
    g_check_roots := PySem.W.mg_of X G H_a_check_roots,
    F_check_count := F_check_count,
    b_check_count := F_check_count.binds (ps := ["count", "low", "high"]) fun _ _ _ _ _ _ us hl => match us, hl with | [_, _, _], _ => rfl,
    g_check_count := PySem.W.mg_of X G H_a_check_count,
    F_wrong_in_name := F_wrong_in_name,
    b_wrong_in_name := F_wrong_in_name.binds (ps := ["thing", "turns", "roots"]) fun _ _ _ _ _ _ us hl => match us, hl with | [_, _, _], _ => rfl,
    g_wrong_in_name := PySem.W.mg_of X G H_a_wrong_in_name,
    F_check_name := F_check_name,
    b_check_name := F_check_name.binds (ps := ["thing", "turns", "roots"]) fun _ _ _ _ _ _ us hl => match us, hl with | [_, _, _], _ => rfl,
    g_check_name := PySem.W.mg_of X G H_a_check_name,
    F_refuse := F_refuse,
    b_refuse := F_refuse.binds (ps := ["wrong"]) fun _ _ _ _ _ _ us hl => match us, hl with | [_], _ => rfl,
    g_refuse := PySem.W.mg_of X G H_a_refuse,
    F_is_row := F_is_row,
    b_is_row := F_is_row.binds (ps := ["thing", "parts"]) fun _ _ _ _ _ _ us hl => match us, hl with | [_, _], _ => rfl,
    g_is_row := PySem.W.mg_of X G H_a_is_row,
    F_form_fault := F_form_fault,
    b_form_fault := F_form_fault.binds (ps := ["thing", "most", "parts"]) fun _ _ _ _ _ _ us hl => match us, hl with | [_, _, _], _ => rfl,
    g_form_fault := PySem.W.mg_of X G H_a_form_fault,
    F_hand_fault := F_hand_fault,
    b_hand_fault := F_hand_fault.binds (ps := ["n", "pairs", "first_sender", "first_receiver"]) fun _ _ _ _ _ _ us hl => match us, hl with | [_, _, _, _], _ => rfl,
    g_hand_fault := PySem.W.mg_of X G H_a_hand_fault,
    F_again_fault := F_again_fault,
    b_again_fault := F_again_fault.binds (ps := ["keys", "taken"]) fun _ _ _ _ _ _ us hl => match us, hl with | [_, _], _ => rfl,
    g_again_fault := PySem.W.mg_of X G H_a_again_fault,
    F_nobody_fault := F_nobody_fault,
    b_nobody_fault := F_nobody_fault.binds (ps := ["wanted", "keys"]) fun _ _ _ _ _ _ us hl => match us, hl with | [_, _], _ => rfl,
    g_nobody_fault := PySem.W.mg_of X G H_a_nobody_fault,
    F_early_fault := F_early_fault,
    b_early_fault := F_early_fault.binds (ps := ["told", "roots", "letter"]) fun _ _ _ _ _ _ us hl => match us, hl with | [_, _, _], _ => rfl,
    g_early_fault := PySem.W.mg_of X G H_a_early_fault,
    F_telling_fault := F_telling_fault,
    b_telling_fault := F_telling_fault.binds (ps := ["told", "roots", "wanted", "letter"]) fun _ _ _ _ _ _ us hl => match us, hl with | [_, _, _, _], _ => rfl,
    g_telling_fault := PySem.W.mg_of X G H_a_telling_fault,
    F_is_near := F_is_near,
    b_is_near := F_is_near.binds (ps := ["times", "hand", "time", "width"]) fun _ _ _ _ _ _ us hl => match us, hl with | [_, _, _, _], _ => rfl,
    g_is_near := PySem.W.mg_of X G H_a_is_near,
    F_near_fault := F_near_fault,
    b_near_fault := F_near_fault.binds (ps := ["why", "marks", "width"]) fun _ _ _ _ _ _ us hl => match us, hl with | [_, _, _], _ => rfl,
    g_near_fault := PySem.W.mg_of X G H_a_near_fault,
    F_Tree_init := F_Tree_init,
    b_Tree_init := F_Tree_init.binds (ps := ["self", "machine", "turns", "roots"]) fun _ _ _ _ _ _ us hl => match us, hl with | [_, _, _, _], _ => rfl,
    mk_Tree := ⟨H_mk_Tree, H_a_Tree_init, H_i_Tree_init, H_kc_Tree⟩,
    F_time_of := F_time_of,
    b_time_of := F_time_of.binds (ps := ["tree", "name"]) fun _ _ _ _ _ _ us hl => match us, hl with | [_, _], _ => rfl,
    g_time_of := PySem.W.mg_of X G H_a_time_of,
    F_is_name := F_is_name,
    t_is_name_roots := fun _ => .inr ⟨_, _, _, H_tp_is_name_roots, rfl, rfl, (by show 1 ≤ sizeLine; decide), .cons ⟨_, rfl⟩ (.nil)⟩,
    g_is_name := PySem.W.mg_of X G H_a_is_name,
    F_known_at := F_known_at,
    t_known_at_roots := fun _ => .inr ⟨_, _, _, H_tp_known_at_roots, rfl, rfl, (by show 1 ≤ sizeLine; decide), .cons ⟨_, rfl⟩ (.nil)⟩,
    g_known_at := PySem.W.mg_of X G H_a_known_at,
    F_row_fault := F_row_fault,
    b_row_fault := F_row_fault.binds (ps := ["n", "thing"]) fun _ _ _ _ _ _ us hl => match us, hl with | [_, _], _ => rfl,
    g_row_fault := PySem.W.mg_of X G H_a_row_fault,
    F_fault := F_fault,
    b_fault := F_fault.binds (ps := ["machine", "n", "thing"]) fun _ _ _ _ _ _ us hl => match us, hl with | [_, _, _], _ => rfl,
    g_fault := PySem.W.mg_of X G H_a_fault,
    F_by_start := F_by_start,
    b_by_start := F_by_start.toFun.binds (ps := ["rows"]) fun _ _ _ _ _ _ us hl => match us, hl with | [_], _ => rfl,
    g_by_start := PySem.W.mg_of X G H_a_by_start,
    F_with_starts := F_with_starts,
    b_with_starts := F_with_starts.binds (ps := ["rows", "starts"]) fun _ _ _ _ _ _ us hl => match us, hl with | [_, _], _ => rfl,
    g_with_starts := PySem.W.mg_of X G H_a_with_starts,
    F_start_of := F_start_of,
    b_start_of := F_start_of.binds (ps := ["machine", "name"]) fun _ _ _ _ _ _ us hl => match us, hl with | [_, _], _ => rfl,
    g_start_of := PySem.W.mg_of X G H_a_start_of,
    F_names_of := F_names_of,
    b_names_of := F_names_of.binds (ps := ["machine", "n", "plan"]) fun _ _ _ _ _ _ us hl => match us, hl with | [_, _, _], _ => rfl,
    g_names_of := PySem.W.mg_of X G H_a_names_of,
    F_earliest := F_earliest,
    b_earliest := F_earliest.binds (ps := ["machine", "n", "plan"]) fun _ _ _ _ _ _ us hl => match us, hl with | [_, _, _], _ => rfl,
    g_earliest := PySem.W.mg_of X G H_a_earliest,
    F_check_names := F_check_names,
    b_check_names := F_check_names.binds (ps := ["names"]) fun _ _ _ _ _ _ us hl => match us, hl with | [_], _ => rfl,
    g_check_names := PySem.W.mg_of X G H_a_check_names,
    F_plan_of := F_plan_of,
    b_plan_of := F_plan_of.binds (ps := ["machine", "names"]) fun _ _ _ _ _ _ us hl => match us, hl with | [_, _], _ => rfl,
    g_plan_of := PySem.W.mg_of X G H_a_plan_of,
    F_Machine_init := F_Machine_init,
    b_Machine_init := F_Machine_init.binds (ps := ["self", "o", "l", "g"]) fun _ _ _ _ _ _ us hl => match us, hl with | [_, _, _, _], _ => rfl,
    mk_Machine := ⟨H_mk_Machine, H_a_Machine_init, H_i_Machine_init, H_kc_Machine⟩,
    F__law_source := F__law_source,
    b__law_source := F__law_source.binds (ps := ["_law_script"]) fun _ _ _ _ _ _ us hl => match us, hl with | [_], _ => rfl,
    g__law_source := PySem.W.mg_of X G H_a__law_source,
    F__law_draw := F__law_draw,
    b__law_draw := F__law_draw.binds (ps := ["_law_source_here", "_law_limit"]) fun _ _ _ _ _ _ us hl => match us, hl with | [_, _], _ => rfl,
    g__law_draw := PySem.W.mg_of X G H_a__law_draw,
    F__law_big := F__law_big,
    b__law_big := F__law_big.binds (ps := ["_law_source_here", "_law_limit"]) fun _ _ _ _ _ _ us hl => match us, hl with | [_, _], _ => rfl,
    g__law_big := PySem.W.mg_of X G H_a__law_big,
    F__law_numbers := F__law_numbers,
    b__law_numbers := F__law_numbers.binds (ps := ["_law_source_here"]) fun _ _ _ _ _ _ us hl => match us, hl with | [_], _ => rfl,
    g__law_numbers := PySem.W.mg_of X G H_a__law_numbers,
    F__law_times := F__law_times,
    b__law_times := F__law_times.binds (ps := ["_law_numbers_here"]) fun _ _ _ _ _ _ us hl => match us, hl with | [_], _ => rfl,
    g__law_times := PySem.W.mg_of X G H_a__law_times,
    F__law_is := F__law_is,
    b__law_is := F__law_is.binds (ps := ["_law_thing", "_law_due"]) fun _ _ _ _ _ _ us hl => match us, hl with | [_, _], _ => rfl,
    g__law_is := PySem.W.mg_of X G H_a__law_is,
    F__law_same_names := F__law_same_names,
    b__law_same_names := F__law_same_names.binds (ps := ["_law_thing", "_law_due"]) fun _ _ _ _ _ _ us hl => match us, hl with | [_, _], _ => rfl,
    g__law_same_names := PySem.W.mg_of X G H_a__law_same_names,
    F__law_plan := F__law_plan,
    b__law_plan := F__law_plan.binds (ps := ["_law_source_here", "_law_letter", "_law_gap", "_law_n", "_law_most"]) fun _ _ _ _ _ _ us hl => match us, hl with | [_, _, _, _, _], _ => rfl,
    g__law_plan := PySem.W.mg_of X G H_a__law_plan,
    F__law_same_rows := F__law_same_rows,
    b__law_same_rows := F__law_same_rows.binds (ps := ["_law_thing", "_law_due"]) fun _ _ _ _ _ _ us hl => match us, hl with | [_, _], _ => rfl,
    g__law_same_rows := PySem.W.mg_of X G H_a__law_same_rows,
    F__law_called := F__law_called,
    b__law_called := F__law_called.binds (ps := ["_law_n", "_law_rows"]) fun _ _ _ _ _ _ us hl => match us, hl with | [_, _], _ => rfl,
    g__law_called := PySem.W.mg_of X G H_a__law_called,
    F_law := F_law,
    b_law := F_law.binds (ps := ["_law_script"]) fun _ _ _ _ _ _ us hl => match us, hl with | [_], _ => rfl,
    g_law := PySem.W.mg_of X G H_a_law,
    g_Tree := PySem.W.mg_of X G H_g_Tree,
    cl_Tree := ⟨H_pg_Tree, H_hd_Tree, H_po_Tree, H_sa_Tree⟩,
    nF_Tree_letter := H_nF_Tree_letter,
    nF_Tree_gap := H_nF_Tree_gap,
    nF_Tree_turns := H_nF_Tree_turns,
    nF_Tree_roots := H_nF_Tree_roots,
    nF_Tree_horizon := H_nF_Tree_horizon,
    nF_Tree_powers := H_nF_Tree_powers,
    g_Machine := PySem.W.mg_of X G H_g_Machine,
    cl_Machine := ⟨H_pg_Machine, H_hd_Machine, H_po_Machine, H_sa_Machine⟩,
    nF_Machine_o := H_nF_Machine_o,
    nF_Machine_l := H_nF_Machine_l,
    nF_Machine_g := H_nF_Machine_g,
    nF_Machine_letter := H_nF_Machine_letter,
    nF_Machine_gap := H_nF_Machine_gap,
    n_abs := PySem.W.mg_none_of X G H_n_abs,
    n_all := PySem.W.mg_none_of X G H_n_all,
    n_bool := PySem.W.mg_none_of X G H_n_bool,
    n_enumerate := PySem.W.mg_none_of X G H_n_enumerate,
    n_int := PySem.W.mg_none_of X G H_n_int,
    n_isinstance := PySem.W.mg_none_of X G H_n_isinstance,
    n_len := PySem.W.mg_none_of X G H_n_len,
    n_list := PySem.W.mg_none_of X G H_n_list,
    n_max := PySem.W.mg_none_of X G H_n_max,
    n_range := PySem.W.mg_none_of X G H_n_range,
    n_set := PySem.W.mg_none_of X G H_n_set,
    n_sorted := PySem.W.mg_none_of X G H_n_sorted,
    n_sum := PySem.W.mg_none_of X G H_n_sum,
    n_tuple := PySem.W.mg_none_of X G H_n_tuple,
    g_MOST_TURNS := ⟨_, PySem.W.mg_of X G H_x_MOST_TURNS⟩,
    g_MOST_ROOTS := ⟨_, PySem.W.mg_of X G H_x_MOST_ROOTS⟩,
    g_LATEST_ROOT := ⟨_, PySem.W.mg_of X G H_x_LATEST_ROOT⟩,
    g_LONGEST_NAME := ⟨_, PySem.W.mg_of X G H_x_LONGEST_NAME⟩,
    g_GREATEST_ITEM := ⟨_, PySem.W.mg_of X G H_x_GREATEST_ITEM⟩,
    g_MOST_PLANNED := ⟨_, PySem.W.mg_of X G H_x_MOST_PLANNED⟩,
    g_MOST_ROWS := ⟨_, PySem.W.mg_of X G H_x_MOST_ROWS⟩,
    g_LATEST_START := ⟨_, PySem.W.mg_of X G H_x_LATEST_START⟩,
    g_FREE_DEPTHS := ⟨_, PySem.W.mg_of X G H_x_FREE_DEPTHS⟩,
    g_TURNS_DEPTHS := ⟨_, PySem.W.mg_of X G H_x_TURNS_DEPTHS⟩,
    g_GREATEST_PART := ⟨_, PySem.W.mg_of X G H_x_GREATEST_PART⟩,
    B_by_start := hB (k_by_start, tb_by_start) (by simp),
    tn_by_start := List.Mem.head _,
    tu_by_start := fun p hp e => by
      have hp : p ∈ ([(tb_by_start, (("by_start" ++ ".<locals>." : Str) ++ "<lambda>"))] : List (Addr × Str)) := hp
      simp only [List.mem_cons, List.not_mem_nil, or_false] at hp
      rcases hp with rfl
      · exact rfl }
  have cs_each : ∀ {R : Addr × Addr → Prop}, R (k_by_start, tb_by_start) → ∀ p ∈ ([(k_by_start, tb_by_start)] : List (Addr × Addr)), R p := fun q p hp => by
    simp only [List.mem_cons, List.not_mem_nil, or_false] at hp
    rcases hp with rfl
    · exact q
  refine ⟨a.d_law, [(k_by_start, tb_by_start)], spLawT (spLaw K), cs_each H_kg_by_start, cs_each H_kn_by_start, cs_each (PySem.W.codeHd_of_K X H_kh_by_start), fun s v => .of_eq rfl, fun H x ns hl _ hT hS => ⟨fun p hp => ?_, ⟨x, ns, rfl, hS, hl, fun _ => rfl⟩⟩, fun base KX NX hB => ok_law (T base hB)⟩
  have hp : p ∈ ([(tb_by_start, (("by_start" ++ ".<locals>." : Str) ++ "<lambda>"))] : List (Addr × Str)) := hp
  simp only [List.mem_cons, List.not_mem_nil, or_false] at hp
  rcases hp with rfl
  · exact LamX.TabS.nil (hT (k_by_start, tb_by_start) (by simp))
theorem walk {l : PySem.W.OpenLaw} {q : Program} {loose : List Str} {XP : (Str → Option Value) → Heap → Prop} {YP : World → Heap → Prop} {d : DefRec} {K : Params → PySem.W.Frag} (hn : l.most = some 63) (hdf : d.params.defaults = [])
    (hY : ∀ (w : World) (h : Heap), YP w h → (K w.params).In h)
    (F : ∀ (w : World) (mg : Str → Option Value) (fa : Addr) (h : Heap), YP w h → (K w.params).In h → h.Ns mainGlobals mg → mg d.name = some (.ref fa) → LamX.LawAtS l w (K w.params) CX0 12 63 "_law_script" mg fa h) :
    PySem.W.WalkO q loose XP YP l.row.toRowW d [] (fun f vs => PySem.call f vs) :=
  LamX.walk_ofTs (CX := fun _ => CX0) hn (by decide) hdf ⟨rfl, by decide, by decide⟩ hY F fun _ _ _ _ _ z => z
end My
open PySem PySem.W PyProof.Rows
set_option maxRecDepth 100000 in
set_option maxHeartbeats 0 in
theorem PySem.Challenge.cw_tellontree_k29_whole_names_and_plans_holds : PySem.Challenge.rw_tellontree_k29_whole_names_and_plans.Holds := by
  w_on; o_law; k_head; (case hw => w_witness2)
  k_fill
  refine My.walk (l := PySem.Challenge.rw_tellontree_k29_whole_names_and_plans) rfl rfl (fun w h Y => PySem.W.km_in_of Y) ?F
  case F =>
    intro w mg fa h Y KX G hmg
    refine' My.all_mk KX G hmg ?H_g_Machine ?H_g_Tree ?H_a_is_integer ?H_l_is_integer ?H_c_is_integer ?H_k_is_integer ?H_a_is_between ?H_l_is_between ?H_c_is_between ?H_k_is_between ?H_a_check_turns ?H_l_check_turns ?H_c_check_turns ?H_k_check_turns ?H_a_check_roots ?H_l_check_roots ?H_c_check_roots ?H_k_check_roots ?H_a_check_count ?H_l_check_count ?H_c_check_count ?H_k_check_count ?H_a_wrong_in_name ?H_l_wrong_in_name ?H_c_wrong_in_name ?H_k_wrong_in_name ?H_a_check_name ?H_l_check_name ?H_c_check_name ?H_k_check_name ?H_a_refuse ?H_l_refuse ?H_c_refuse ?H_k_refuse ?H_a_is_row ?H_l_is_row ?H_c_is_row ?H_k_is_row ?H_a_form_fault ?H_l_form_fault ?H_c_form_fault ?H_k_form_fault ?H_a_hand_fault ?H_l_hand_fault ?H_c_hand_fault ?H_k_hand_fault ?H_a_again_fault ?H_l_again_fault ?H_c_again_fault ?H_k_again_fault ?H_a_nobody_fault ?H_l_nobody_fault ?H_c_nobody_fault ?H_k_nobody_fault ?H_a_early_fault ?H_l_early_fault ?H_c_early_fault ?H_k_early_fault ?H_a_telling_fault ?H_l_telling_fault ?H_c_telling_fault ?H_k_telling_fault ?H_a_is_near ?H_l_is_near ?H_c_is_near ?H_k_is_near ?H_a_near_fault ?H_l_near_fault ?H_c_near_fault ?H_k_near_fault ?H_a_Tree_init ?H_i_Tree_init ?H_l_Tree_init ?H_c_Tree_init ?H_k_Tree_init ?H_a_time_of ?H_l_time_of ?H_c_time_of ?H_k_time_of ?H_a_is_name ?H_l_is_name ?H_kw_is_name_turns ?H_kw_is_name_roots ?H_tp_is_name_roots ?H_c_is_name ?H_k_is_name ?H_a_known_at ?H_l_known_at ?H_kw_known_at_turns ?H_kw_known_at_roots ?H_tp_known_at_roots ?H_c_known_at ?H_k_known_at ?H_a_row_fault ?H_l_row_fault ?H_c_row_fault ?H_k_row_fault ?H_a_fault ?H_l_fault ?H_c_fault ?H_k_fault ?H_a_by_start ?H_l_by_start ?H_c_by_start ?H_k_by_start ?H_a_with_starts ?H_l_with_starts ?H_c_with_starts ?H_k_with_starts ?H_a_start_of ?H_l_start_of ?H_c_start_of ?H_k_start_of ?H_a_names_of ?H_l_names_of ?H_c_names_of ?H_k_names_of ?H_a_earliest ?H_l_earliest ?H_c_earliest ?H_k_earliest ?H_a_check_names ?H_l_check_names ?H_c_check_names ?H_k_check_names ?H_a_plan_of ?H_l_plan_of ?H_c_plan_of ?H_k_plan_of ?H_a_Machine_init ?H_i_Machine_init ?H_l_Machine_init ?H_c_Machine_init ?H_k_Machine_init ?H_a__law_source ?H_l__law_source ?H_c__law_source ?H_k__law_source ?H_a__law_draw ?H_l__law_draw ?H_c__law_draw ?H_k__law_draw ?H_a__law_big ?H_l__law_big ?H_c__law_big ?H_k__law_big ?H_a__law_numbers ?H_l__law_numbers ?H_c__law_numbers ?H_k__law_numbers ?H_a__law_times ?H_l__law_times ?H_c__law_times ?H_k__law_times ?H_a__law_is ?H_l__law_is ?H_c__law_is ?H_k__law_is ?H_a__law_same_names ?H_l__law_same_names ?H_c__law_same_names ?H_k__law_same_names ?H_a__law_plan ?H_l__law_plan ?H_c__law_plan ?H_k__law_plan ?H_a__law_same_rows ?H_l__law_same_rows ?H_c__law_same_rows ?H_k__law_same_rows ?H_a__law_called ?H_l__law_called ?H_c__law_called ?H_k__law_called ?H_a_law ?H_l_law ?H_c_law ?H_k_law ?H_pg_Tree ?H_hd_Tree ?H_po_Tree ?H_sa_Tree ?H_mk_Tree ?H_kc_Tree ?H_nF_Tree_letter ?H_nF_Tree_gap ?H_nF_Tree_turns ?H_nF_Tree_roots ?H_nF_Tree_horizon ?H_nF_Tree_powers ?H_pg_Machine ?H_hd_Machine ?H_po_Machine ?H_sa_Machine ?H_mk_Machine ?H_kc_Machine ?H_nF_Machine_o ?H_nF_Machine_l ?H_nF_Machine_g ?H_nF_Machine_letter ?H_nF_Machine_gap ?H_n_abs ?H_n_all ?H_n_bool ?H_n_enumerate ?H_n_int ?H_n_isinstance ?H_n_len ?H_n_list ?H_n_max ?H_n_range ?H_n_set ?H_n_sorted ?H_n_sum ?H_n_tuple ?H_x_MOST_TURNS ?H_x_MOST_ROOTS ?H_x_LATEST_ROOT ?H_x_LONGEST_NAME ?H_x_GREATEST_ITEM ?H_x_MOST_PLANNED ?H_x_MOST_ROWS ?H_x_LATEST_START ?H_x_FREE_DEPTHS ?H_x_TURNS_DEPTHS ?H_x_GREATEST_PART ?H_kl_by_start ?H_kt_by_start ?H_kh_by_start ?H_kn_by_start ?H_kg_by_start
    (case H_g_Machine => k_is)
    (case H_g_Tree => k_is)
    (case H_a_is_integer => k_is)
    (case H_l_is_integer => k_is)
    (case H_c_is_integer => k_is)
    (case H_k_is_integer => k_is)
    (case H_a_is_between => k_is)
    (case H_l_is_between => k_is)
    (case H_c_is_between => k_is)
    (case H_k_is_between => k_is)
    (case H_a_check_turns => k_is)
    (case H_l_check_turns => k_is)
    (case H_c_check_turns => k_is)
    (case H_k_check_turns => k_is)
    (case H_a_check_roots => k_is)
    (case H_l_check_roots => k_is)
    (case H_c_check_roots => k_is)
    (case H_k_check_roots => k_is)
    (case H_a_check_count => k_is)
    (case H_l_check_count => k_is)
    (case H_c_check_count => k_is)
    (case H_k_check_count => k_is)
    (case H_a_wrong_in_name => k_is)
    (case H_l_wrong_in_name => k_is)
    (case H_c_wrong_in_name => k_is)
    (case H_k_wrong_in_name => k_is)
    (case H_a_check_name => k_is)
    (case H_l_check_name => k_is)
    (case H_c_check_name => k_is)
    (case H_k_check_name => k_is)
    (case H_a_refuse => k_is)
    (case H_l_refuse => k_is)
    (case H_c_refuse => k_is)
    (case H_k_refuse => k_is)
    (case H_a_is_row => k_is)
    (case H_l_is_row => k_is)
    (case H_c_is_row => k_is)
    (case H_k_is_row => k_is)
    (case H_a_form_fault => k_is)
    (case H_l_form_fault => k_is)
    (case H_c_form_fault => k_is)
    (case H_k_form_fault => k_is)
    (case H_a_hand_fault => k_is)
    (case H_l_hand_fault => k_is)
    (case H_c_hand_fault => k_is)
    (case H_k_hand_fault => k_is)
    (case H_a_again_fault => k_is)
    (case H_l_again_fault => k_is)
    (case H_c_again_fault => k_is)
    (case H_k_again_fault => k_is)
    (case H_a_nobody_fault => k_is)
    (case H_l_nobody_fault => k_is)
    (case H_c_nobody_fault => k_is)
    (case H_k_nobody_fault => k_is)
    (case H_a_early_fault => k_is)
    (case H_l_early_fault => k_is)
    (case H_c_early_fault => k_is)
    (case H_k_early_fault => k_is)
    (case H_a_telling_fault => k_is)
    (case H_l_telling_fault => k_is)
    (case H_c_telling_fault => k_is)
    (case H_k_telling_fault => k_is)
    (case H_a_is_near => k_is)
    (case H_l_is_near => k_is)
    (case H_c_is_near => k_is)
    (case H_k_is_near => k_is)
    (case H_a_near_fault => k_is)
    (case H_l_near_fault => k_is)
    (case H_c_near_fault => k_is)
    (case H_k_near_fault => k_is)
    (case H_a_Tree_init => k_is)
    (case H_i_Tree_init => k_is)
    (case H_l_Tree_init => k_is)
    (case H_c_Tree_init => k_is)
    (case H_k_Tree_init => k_is)
    (case H_a_time_of => k_is)
    (case H_l_time_of => k_is)
    (case H_c_time_of => k_is)
    (case H_k_time_of => k_is)
    (case H_a_is_name => k_is)
    (case H_l_is_name => k_is)
    (case H_kw_is_name_turns => k_is)
    (case H_kw_is_name_roots => k_is)
    (case H_tp_is_name_roots => k_is)
    (case H_c_is_name => k_is)
    (case H_k_is_name => k_is)
    (case H_a_known_at => k_is)
    (case H_l_known_at => k_is)
    (case H_kw_known_at_turns => k_is)
    (case H_kw_known_at_roots => k_is)
    (case H_tp_known_at_roots => k_is)
    (case H_c_known_at => k_is)
    (case H_k_known_at => k_is)
    (case H_a_row_fault => k_is)
    (case H_l_row_fault => k_is)
    (case H_c_row_fault => k_is)
    (case H_k_row_fault => k_is)
    (case H_a_fault => k_is)
    (case H_l_fault => k_is)
    (case H_c_fault => k_is)
    (case H_k_fault => k_is)
    (case H_a_by_start => k_is)
    (case H_l_by_start => k_is)
    (case H_c_by_start => k_is)
    (case H_k_by_start => k_is)
    (case H_a_with_starts => k_is)
    (case H_l_with_starts => k_is)
    (case H_c_with_starts => k_is)
    (case H_k_with_starts => k_is)
    (case H_a_start_of => k_is)
    (case H_l_start_of => k_is)
    (case H_c_start_of => k_is)
    (case H_k_start_of => k_is)
    (case H_a_names_of => k_is)
    (case H_l_names_of => k_is)
    (case H_c_names_of => k_is)
    (case H_k_names_of => k_is)
    (case H_a_earliest => k_is)
    (case H_l_earliest => k_is)
    (case H_c_earliest => k_is)
    (case H_k_earliest => k_is)
    (case H_a_check_names => k_is)
    (case H_l_check_names => k_is)
    (case H_c_check_names => k_is)
    (case H_k_check_names => k_is)
    (case H_a_plan_of => k_is)
    (case H_l_plan_of => k_is)
    (case H_c_plan_of => k_is)
    (case H_k_plan_of => k_is)
    (case H_a_Machine_init => k_is)
    (case H_i_Machine_init => k_is)
    (case H_l_Machine_init => k_is)
    (case H_c_Machine_init => k_is)
    (case H_k_Machine_init => k_is)
    (case H_a__law_source => k_is)
    (case H_l__law_source => k_is)
    (case H_c__law_source => k_is)
    (case H_k__law_source => k_is)
    (case H_a__law_draw => k_is)
    (case H_l__law_draw => k_is)
    (case H_c__law_draw => k_is)
    (case H_k__law_draw => k_is)
    (case H_a__law_big => k_is)
    (case H_l__law_big => k_is)
    (case H_c__law_big => k_is)
    (case H_k__law_big => k_is)
    (case H_a__law_numbers => k_is)
    (case H_l__law_numbers => k_is)
    (case H_c__law_numbers => k_is)
    (case H_k__law_numbers => k_is)
    (case H_a__law_times => k_is)
    (case H_l__law_times => k_is)
    (case H_c__law_times => k_is)
    (case H_k__law_times => k_is)
    (case H_a__law_is => k_is)
    (case H_l__law_is => k_is)
    (case H_c__law_is => k_is)
    (case H_k__law_is => k_is)
    (case H_a__law_same_names => k_is)
    (case H_l__law_same_names => k_is)
    (case H_c__law_same_names => k_is)
    (case H_k__law_same_names => k_is)
    (case H_a__law_plan => k_is)
    (case H_l__law_plan => k_is)
    (case H_c__law_plan => k_is)
    (case H_k__law_plan => k_is)
    (case H_a__law_same_rows => k_is)
    (case H_l__law_same_rows => k_is)
    (case H_c__law_same_rows => k_is)
    (case H_k__law_same_rows => k_is)
    (case H_a__law_called => k_is)
    (case H_l__law_called => k_is)
    (case H_c__law_called => k_is)
    (case H_k__law_called => k_is)
    (case H_a_law => k_is)
    (case H_l_law => k_is)
    (case H_c_law => k_is)
    (case H_k_law => k_is)
    (case H_pg_Tree => k_is)
    (case H_hd_Tree => k_is)
    (case H_po_Tree => k_is)
    (case H_sa_Tree => k_is)
    (case H_mk_Tree => k_is)
    (case H_kc_Tree => k_is)
    (case H_nF_Tree_letter => k_is)
    (case H_nF_Tree_gap => k_is)
    (case H_nF_Tree_turns => k_is)
    (case H_nF_Tree_roots => k_is)
    (case H_nF_Tree_horizon => k_is)
    (case H_nF_Tree_powers => k_is)
    (case H_pg_Machine => k_is)
    (case H_hd_Machine => k_is)
    (case H_po_Machine => k_is)
    (case H_sa_Machine => k_is)
    (case H_mk_Machine => k_is)
    (case H_kc_Machine => k_is)
    (case H_nF_Machine_o => k_is)
    (case H_nF_Machine_l => k_is)
    (case H_nF_Machine_g => k_is)
    (case H_nF_Machine_letter => k_is)
    (case H_nF_Machine_gap => k_is)
    (case H_n_abs => k_is)
    (case H_n_all => k_is)
    (case H_n_bool => k_is)
    (case H_n_enumerate => k_is)
    (case H_n_int => k_is)
    (case H_n_isinstance => k_is)
    (case H_n_len => k_is)
    (case H_n_list => k_is)
    (case H_n_max => k_is)
    (case H_n_range => k_is)
    (case H_n_set => k_is)
    (case H_n_sorted => k_is)
    (case H_n_sum => k_is)
    (case H_n_tuple => k_is)
    (case H_x_MOST_TURNS => k_is)
    (case H_x_MOST_ROOTS => k_is)
    (case H_x_LATEST_ROOT => k_is)
    (case H_x_LONGEST_NAME => k_is)
    (case H_x_GREATEST_ITEM => k_is)
    (case H_x_MOST_PLANNED => k_is)
    (case H_x_MOST_ROWS => k_is)
    (case H_x_LATEST_START => k_is)
    (case H_x_FREE_DEPTHS => k_is)
    (case H_x_TURNS_DEPTHS => k_is)
    (case H_x_GREATEST_PART => k_is)
    (case H_kl_by_start => k_is)
    (case H_kt_by_start => exact rfl)
    (case H_kh_by_start => kernel_rfl)
    (case H_kn_by_start => kernel_rfl)
    (case H_kg_by_start => exact PySem.W.km_tabs_of Y _ (by simp))
