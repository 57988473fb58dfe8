import PyProof.Rows.All
import Wide.All
import OpenK.AllK
import Wide.FinOn
import HandS.Base
import HandS.Call
import HandS.List
import HandS.Comp
import HandS.Iter
import HandS.Ends
import HandS.Words
import HandS.WordsList
import HandS.IsInst
import HandS.Wide
import HandS.Style
import HandS.ClsMeth
import HandS.Defaults
import HandS.MakeKwOnly
import HandS.SlotsOwn
import HandS.Dict
import HandS.Gcd
import HandS.Exc
import HandS.ExcOwn
import HandS.TryOnly
import HandS.TryMany
import HandS.ExcField
import HandS.WordsExc
import KE.KExcInit
import HandS.SetFor
import KE.KMathGC
import KE.GoesMore
import HandS.Lambda
import HandS.EndTab
import HandS.HeadWalk
import KE.KNestM
import KE.DataMinMax
import KE.DatumOrd
import PySem.Challenge.RW_tellontree_k83_least_sum_times_and_hands
set_option Elab.async false
set_option linter.all false
set_option maxRecDepth 100000
namespace My
open PySem L2
def top (i : Nat) : Stmt := PySem.Challenge.pw_tellontree_k83_least_sum_times_and_hands.main.body.getD i (.Pass ⟨0, 0, 0, 0⟩)
abbrev s_is_integer : Stmt := top 8
theorem sc_is_integer : FnScope ["thing"] ["thing"] (defScope s_is_integer) := ⟨rfl, rfl, rfl, by decide +kernel, rfl, by decide +kernel, by decide +kernel⟩
abbrev s_is_between : Stmt := top 9
theorem sc_is_between : FnScope ["thing", "low", "high"] ["thing", "low", "high"] (defScope s_is_between) := ⟨rfl, rfl, rfl, by decide +kernel, rfl, by decide +kernel, by decide +kernel⟩
abbrev s_check_count : Stmt := top 10
theorem sc_check_count : FnScope ["count", "low", "high"] ["count", "low", "high"] (defScope s_check_count) := ⟨rfl, rfl, rfl, by decide +kernel, rfl, by decide +kernel, by decide +kernel⟩
abbrev s_check_time : Stmt := top 11
theorem sc_check_time : FnScope ["time", "latest"] ["time", "latest"] (defScope s_check_time) := ⟨rfl, rfl, rfl, by decide +kernel, rfl, by decide +kernel, by decide +kernel⟩
abbrev s_least_where : Stmt := top 13
theorem sc_least_where : FnScope ["low", "high", "holds", "middle"] ["low", "high", "holds"] (defScope s_least_where) := ⟨rfl, rfl, rfl, by decide +kernel, rfl, by decide +kernel, by decide +kernel⟩
abbrev s_Machine_init : Stmt := inClass (top 16) 0
theorem sc_Machine_init : FnScope ["self", "o", "l", "g"] ["self", "o", "l", "g"] (defScope s_Machine_init) := ⟨rfl, rfl, rfl, by decide +kernel, rfl, by decide +kernel, by decide +kernel⟩
abbrev s_slow_tree : Stmt := top 20
theorem sc_slow_tree : FnScope ["machine", "n", "letter", "gap", "waiting", "told", "known", "sender"] ["machine", "n"] (defScope s_slow_tree) := ⟨rfl, rfl, rfl, by decide +kernel, rfl, by decide +kernel, by decide +kernel⟩
abbrev s_greatest_sum : Stmt := top 21
theorem sc_greatest_sum : FnScope ["machine", "n", "time", "known", "_"] ["machine", "n", "time"] (defScope s_greatest_sum) := ⟨rfl, rfl, rfl, by decide +kernel, rfl, by decide +kernel, by decide +kernel⟩
abbrev s_most_summed : Stmt := top 22
theorem sc_most_summed : FnScope ["machine", "n", "time"] ["machine", "n", "time"] (defScope s_most_summed) := ⟨rfl, rfl, rfl, by decide +kernel, rfl, by decide +kernel, by decide +kernel⟩
abbrev s_least_sum_time : Stmt := top 23
theorem sc_least_sum_time : FnScope ["machine", "n", "count"] ["machine", "n", "count"] (defScope s_least_sum_time) := ⟨rfl, rfl, rfl, by decide +kernel, rfl, by decide +kernel, by decide +kernel⟩
abbrev s_least_summers : Stmt := top 24
theorem sc_least_summers : FnScope ["machine", "time", "count", "n"] ["machine", "time", "count"] (defScope s_least_summers) := ⟨rfl, rfl, rfl, by decide +kernel, rfl, by decide +kernel, by decide +kernel⟩
abbrev s__law_source : Stmt := top 26
theorem sc__law_source : FnScope ["_law_script", "_law_cell"] ["_law_script"] (defScope s__law_source) := ⟨rfl, rfl, rfl, by decide +kernel, rfl, by decide +kernel, by decide +kernel⟩
abbrev s__law_draw : Stmt := top 27
theorem sc__law_draw : FnScope ["_law_source_here", "_law_limit", "_law_cell", "_law_digit", "_law_one", "_law_two", "_law_three"] ["_law_source_here", "_law_limit"] (defScope s__law_draw) := ⟨rfl, rfl, rfl, by decide +kernel, rfl, by decide +kernel, by decide +kernel⟩
abbrev s__law_big : Stmt := top 28
theorem sc__law_big : FnScope ["_law_source_here", "_law_limit", "_law_number", "_law_k"] ["_law_source_here", "_law_limit"] (defScope s__law_big) := ⟨rfl, rfl, rfl, by decide +kernel, rfl, by decide +kernel, by decide +kernel⟩
abbrev s__law_numbers : Stmt := top 29
theorem sc__law_numbers : FnScope ["_law_source_here", "_law_kind", "_law_tops", "_law_o", "_law_l", "_law_g"] ["_law_source_here"] (defScope s__law_numbers) := ⟨rfl, rfl, rfl, by decide +kernel, rfl, by decide +kernel, by decide +kernel⟩
abbrev s__law_small : Stmt := top 30
theorem sc__law_small : FnScope ["_law_source_here", "_law_o", "_law_l", "_law_g"] ["_law_source_here"] (defScope s__law_small) := ⟨rfl, rfl, rfl, by decide +kernel, rfl, by decide +kernel, by decide +kernel⟩
abbrev s__law_is : Stmt := top 31
theorem sc__law_is : FnScope ["_law_thing", "_law_due"] ["_law_thing", "_law_due"] (defScope s__law_is) := ⟨rfl, rfl, rfl, by decide +kernel, rfl, by decide +kernel, by decide +kernel⟩
abbrev s__law_known : Stmt := top 32
theorem sc__law_known : FnScope ["_law_numbers_here", "_law_n", "_law_letter", "_law_gap", "_law_known_here", "_law_sent", "_law_times", "_law_at", "_law_k"] ["_law_numbers_here", "_law_n"] (defScope s__law_known) := ⟨rfl, rfl, rfl, by decide +kernel, rfl, by decide +kernel, by decide +kernel⟩
abbrev s__law_most : Stmt := top 33
theorem sc__law_most : FnScope ["_law_numbers_here", "_law_n", "_law_time", "_law_total", "_law_known_here"] ["_law_numbers_here", "_law_n", "_law_time"] (defScope s__law_most) := ⟨rfl, rfl, rfl, by decide +kernel, rfl, by decide +kernel, by decide +kernel⟩
abbrev s__law_fewest : Stmt := top 34
theorem sc__law_fewest : FnScope ["_law_numbers_here", "_law_time", "_law_count", "_law_known_here", "_law_total", "_law_n"] ["_law_numbers_here", "_law_time", "_law_count"] (defScope s__law_fewest) := ⟨rfl, rfl, rfl, by decide +kernel, rfl, by decide +kernel, by decide +kernel⟩
abbrev s__law_time_right : Stmt := top 35
theorem sc__law_time_right : FnScope ["_law_machine", "_law_numbers_here", "_law_n", "_law_count", "_law_time"] ["_law_machine", "_law_numbers_here", "_law_n", "_law_count"] (defScope s__law_time_right) := ⟨rfl, rfl, rfl, by decide +kernel, rfl, by decide +kernel, by decide +kernel⟩
abbrev s__law_hands_right : Stmt := top 36
theorem sc__law_hands_right : FnScope ["_law_machine", "_law_numbers_here", "_law_time", "_law_count", "_law_due", "_law_told"] ["_law_machine", "_law_numbers_here", "_law_time", "_law_count"] (defScope s__law_hands_right) := ⟨rfl, rfl, rfl, by decide +kernel, rfl, by decide +kernel, by decide +kernel⟩
abbrev s__law_grows : Stmt := top 37
theorem sc__law_grows : FnScope ["_law_machine", "_law_numbers_here", "_law_n", "_law_time", "_law_told"] ["_law_machine", "_law_numbers_here", "_law_n", "_law_time"] (defScope s__law_grows) := ⟨rfl, rfl, rfl, by decide +kernel, rfl, by decide +kernel, by decide +kernel⟩
abbrev s_law : Stmt := top 38
theorem sc_law : FnScope ["_law_script", "_law_source_here", "_law_numbers_here", "_law_machine", "_law_turn", "_law_n", "_law_top", "_law_time", "_law_count"] ["_law_script"] (defScope s_law) := ⟨rfl, rfl, rfl, by decide +kernel, rfl, by decide +kernel, by decide +kernel⟩
/-! ### core: rules that the layer lacks, what a draw's source is -/
section
variable {X : Cx}
/-- xs[i], read ahead of xs[i] op= e -/
theorem gt_list : PGet X (rIxL X.K) := by
  intro pins s σ H x y v u Q I rx ry h
  obtain ⟨p, xs, i, z, rfl, rfl, hq, he, q⟩ := h
  cases rx
  obtain ⟨t, rfl⟩ := ry
  obtain ⟨its, r, pl, hz⟩ := I.list hq
  obtain ⟨j, h1, h2, h3, h4, h5⟩ := atI_get he
  obtain ⟨w, ew, rw'⟩ := r.get h2
  have hl := r.length
  have hn := line63
  have fin : EP X pins σ Q w s := ⟨z, H, I, rw', q⟩
  by_cases h0 : 0 ≤ i
  · have hj : i.toNat = j := by
      rw [seqIndex_of h0 h5] at h1
      exact Option.some.inj h1
    exact PySem.wpAny_getItem_list pl.isList h0 (by omega) (by rw [hj]; simpa using ew) fin
  · have hj : (i + (its.toArray.size : Int)).toNat = j := by
      rw [seqIndex_neg (by omega) h4] at h1
      rw [List.size_toArray, ← hl]
      exact Option.some.inj h1
    exact PySem.wpAny_getItem_list_neg pl.isList (by omega) (by rw [List.size_toArray] <;> omega) (by omega) (by rw [hj]; simpa using ew) fin
end
theorem pe_powN {X : Cx} {i j z : Int} {p q pos : Pos} {k l : Nat} (hc : CPow i j) (h : i ^ j.toNat = z) : PE X (.BinOp (.Constant (.int i) k p) .Pow (.Constant (.int j) l q) pos) (tC (.int z)) :=
  ⟨fun pins s σ H Q I g => (pe_op op_pow pe_int pe_int).run pins s σ H Q I ⟨i, j, rfl, rfl, hc, by show Q (.int (i ^ j.toNat)) H; rw [h]; exact g⟩⟩
theorem ite_tt {c A B : Prop} [Decidable c] (hc : c) (h : A) : if decide c = true then A else B := by
  rw [if_pos (decide_eq_true hc)]
  exact h
theorem ite_ff {c A B : Prop} [Decidable c] (hc : ¬ c) (h : B) : if decide c = true then A else B := by
  rw [if_neg (by rw [decide_eq_false hc]; exact Bool.false_ne_true)]
  exact h
theorem ite_d {c A B : Prop} [Decidable c] (h1 : c → A) (h2 : ¬ c → B) : if decide c = true then A else B := by
  by_cases hc : c
  · exact ite_tt hc (h1 hc)
  · exact ite_ff hc (h2 hc)
theorem ite_b {b : Bool} {A B : Prop} (h1 : b = true → A) (h2 : b = false → B) : if b = true then A else B := by
  cases b with
  | true => exact iteT (h1 rfl)
  | false => exact iteF (h2 rfl)
/-! ### readings, turn by turn -/
/-- a new object -/
def NewAt (n : Nat) (o : HO) (H : Hp) (Q : VK) : Prop := n ≤ sizeLine ∧ ∀ p, H p = none → Q (.ref p) (upd H p o)
/-! ### what stays, where tables of code objects may grow -/
/-- the tables of code objects, each with the name that its code objects bear -/
class Tn where
  t : List (Addr × Str)
variable [Tn]
def nt : HO → Bool
  | .tbl _ => false
  | _ => true
def flat : HO → Bool
  | .tbl _ => false
  | .ext _ => false
  | _ => true
class Nt (o : HO) : Prop where
  f : nt o = true
instance {xs} : Nt (.lst xs) := ⟨rfl⟩
instance {xs} : Nt (.tup xs) := ⟨rfl⟩
instance {xs} : Nt (.dK xs) := ⟨rfl⟩
instance {xs} : Nt (.dT xs) := ⟨rfl⟩
instance {S n} : Nt (.set S n) := ⟨rfl⟩
instance {C d f} : Nt (.ins C d f) := ⟨rfl⟩
instance {x} : Nt (.own x) := ⟨rfl⟩
instance {x} : Nt (.xd x) := ⟨rfl⟩
instance {f x} : Nt (.met f x) := ⟨rfl⟩
instance {f x} : Nt (.rng f x) := ⟨rfl⟩
instance {f x} : Nt (.frz f x) := ⟨rfl⟩
instance {φ} : Nt (.ext φ) := ⟨rfl⟩
instance {c : Addr} {q : Str} : Nt (LamX.CodeO c q) := ⟨rfl⟩
class Flat (o : HO) : Prop where
  f : flat o = true
instance {xs} : Flat (.lst xs) := ⟨rfl⟩
instance {xs} : Flat (.tup xs) := ⟨rfl⟩
instance {xs} : Flat (.dK xs) := ⟨rfl⟩
instance {xs} : Flat (.dT xs) := ⟨rfl⟩
instance {S n} : Flat (.set S n) := ⟨rfl⟩
instance {C d f} : Flat (.ins C d f) := ⟨rfl⟩
instance {x} : Flat (.own x) := ⟨rfl⟩
instance {x} : Flat (.xd x) := ⟨rfl⟩
theorem nt_flat {o : HO} (h : flat o = true) : nt o = true := by cases o <;> first | rfl | cases h
abbrev TbsOk (H : Hp) : Prop := LamX.Tabs Tn.t H
/-- all that was tracked is as it was; tables may have grown -/
structure Same (H H' : Hp) : Prop where
  at_ : ∀ b o, H b = some o → (hn : nt o = true) → H' b = some o
  tb : ∀ b ps, H b = some (.tbl ps) → ∃ ps', H' b = some (.tbl ps')
  ts : TbsOk H → TbsOk H'
theorem Same.app {H H' : Hp} (s : Same H H') : ∀ b o, H b = some o → [Nt o] → H' b = some o := fun b o h n => s.at_ b o h n.f
instance {H H' : Hp} : CoeFun (Same H H') (fun _ => ∀ b o, H b = some o → [Nt o] → H' b = some o) := ⟨@Same.app _ _ _⟩
theorem nt_tbl {H : Hp} {b : Addr} {o : HO} (h : H b = some o) : nt o = true ∨ ∃ ps, H b = some (.tbl ps) := by
  cases o with
  | tbl ps => exact .inr ⟨ps, h⟩
  | _ => exact .inl rfl
theorem tabs_of {H H' : Hp} (k : ∀ b o, H b = some o → H' b = some o) (h : TbsOk H) : TbsOk H' := h.ext k
theorem Same.of {H H' : Hp} (k : ∀ b o, H b = some o → H' b = some o) : Same H H' := ⟨fun b o h _ => k b o h, fun b ps h => ⟨ps, k b _ h⟩, tabs_of k⟩
theorem Same.refl (H : Hp) : Same H H := .of fun _ _ h => h
theorem Same.trans {H H1 H2 : Hp} (a : Same H H1) (b : Same H1 H2) : Same H H2 :=
  ⟨fun c o h n => b.at_ c o (a.at_ c o h n) n, fun c ps h => let ⟨p1, h1⟩ := a.tb c ps h; b.tb c p1 h1, fun h => b.ts (a.ts h)⟩
theorem Same.new {H : Hp} {p : Addr} {o : HO} (h : H p = none) : Same H (upd H p o) := .of fun b u e => by rw [upd_ne (ne_of_none e h)]; exact e
theorem Same.at {H H' : Hp} {b : Addr} {o : HO} [hn : Nt o] (s : Same H H') (h : H b = some o) : H' b = some o := s.at_ b o h hn.f
theorem Same.some {H H' : Hp} {b : Addr} {o : HO} (s : Same H H') (h : H b = Option.some o) : ∃ u, H' b = Option.some u := by
  rcases nt_tbl h with z | ⟨ps, z⟩
  · exact ⟨o, s.at_ b o h z⟩
  · exact let ⟨p1, h1⟩ := s.tb b ps z; ⟨_, h1⟩
theorem Same.free {H H' : Hp} (e : Same H H') {l : Addr} (h : H' l = Option.none) : H l = Option.none := by
  cases q : H l with
  | none => rfl
  | some o =>
    obtain ⟨u, z⟩ := e.some q
    rw [h] at z
    cases z
theorem Same.seq {K : PySem.W.Frag} {H H' : Hp} {a : Addr} {xs : List V} (e : Same H H') (h : SqL K H a xs) : SqL K H' a xs := by
  rcases h with (h | ⟨o, h⟩) | h
  · exact .inl (.inl (e _ _ h))
  · exact .inl (.inr ⟨o, e _ _ h⟩)
  · exact .inr h
/-- all but what stands at p is as it was; tables may have grown -/
structure But (p : Addr) (H H' : Hp) : Prop where
  at_ : ∀ b o, H b = some o → b ≠ p → (hn : nt o = true) → H' b = some o
  tb : ∀ b ps, H b = some (.tbl ps) → b ≠ p → ∃ ps', H' b = some (.tbl ps')
  me : ∀ o, H p = some o → flat o = true → ∃ o', H' p = some o' ∧ flat o' = true
  ts : ∀ o, H p = some o → flat o = true → TbsOk H → TbsOk H'
theorem But.app {p : Addr} {H H' : Hp} (s : But p H H') : ∀ b o, H b = some o → b ≠ p → [Nt o] → H' b = some o := fun b o h n m => s.at_ b o h n m.f
instance {p : Addr} {H H' : Hp} : CoeFun (But p H H') (fun _ => ∀ b o, H b = some o → b ≠ p → [Nt o] → H' b = some o) := ⟨@But.app _ _ _ _⟩
theorem But.of_same {p : Addr} {H H' : Hp} (h : Same H H') : But p H H' := ⟨fun b o e _ n => h.at_ b o e n, fun b ps e _ => h.tb b ps e, fun o e f => ⟨o, h.at_ p o e (nt_flat f), f⟩, fun _ _ _ => h.ts⟩
theorem But.refl (p : Addr) (H : Hp) : But p H H := But.of_same (Same.refl H)
theorem But.trans {p : Addr} {H H1 H2 : Hp} (a : But p H H1) (b : But p H1 H2) : But p H H2 :=
  ⟨fun c o h n m => b.at_ c o (a.at_ c o h n m) n m, fun c ps h n => let ⟨p1, h1⟩ := a.tb c ps h n; b.tb c p1 h1 n, fun o h f => let ⟨o1, h1, f1⟩ := a.me o h f; b.me o1 h1 f1,
    fun o h f t => let ⟨o1, h1, f1⟩ := a.me o h f; b.ts o1 h1 f1 (a.ts o h f t)⟩
theorem tabs_upd {H : Hp} {p : Addr} {o u : HO} (h : H p = some u) (f : flat u = true) (t : TbsOk H) : TbsOk (upd H p o) := fun q hq => by
  obtain ⟨ps, h1, h2, h3⟩ := t q hq
  have n1 : q.1 ≠ p := fun z => by rw [z, h] at h1; cases h1; cases f
  refine ⟨ps, by rw [upd_ne n1]; exact h1, h2, fun pos cv hc => ?_⟩
  obtain ⟨c, e, hco⟩ := h3 pos cv hc
  have n2 : c ≠ p := fun z => by rw [z, h] at hco; cases hco; cases f
  exact ⟨c, e, by rw [upd_ne n2]; exact hco⟩
theorem But.upd {p : Addr} {H : Hp} {o : HO} [hf : Flat o] : But p H (upd H p o) :=
  ⟨fun b u h n _ => by rw [upd_ne n]; exact h, fun b ps h n => ⟨ps, by rw [upd_ne n]; exact h⟩, fun _ _ _ => ⟨o, upd_same, hf.f⟩, fun _ h f t => tabs_upd h f t⟩
theorem But.at {p b : Addr} {H H' : Hp} {o : HO} [hn : Nt o] (s : But p H H') (n : b ≠ p) (h : H b = some o) : H' b = some o := s.at_ b o h n hn.f
theorem But.new {p q : Addr} {H : Hp} {o : HO} (h : H q = none) : But p H (L2.upd H q o) := But.of_same (Same.new h)
theorem But.some {p b : Addr} {H H' : Hp} {o : HO} (s : But p H H') (h : H b = Option.some o) (n : b ≠ p) : ∃ u, H' b = Option.some u := by
  rcases nt_tbl h with z | ⟨ps, z⟩
  · exact ⟨o, s.at_ b o h n z⟩
  · exact let ⟨p1, h1⟩ := s.tb b ps z n; ⟨_, h1⟩
/-- behind the making of an instance -/
theorem Same.made {H H1 : Hp} {x dx C : Addr} (nx : H x = Option.none) (nd : H dx = Option.none) (k : But x (L2.upd (L2.upd H dx (.own x)) x (.ins C dx [])) H1) : Same H H1 := by
  have hne : ∀ b o, H b = Option.some o → (L2.upd (L2.upd H dx (.own x)) x (.ins C dx [])) b = Option.some o := fun b o e => by
    rw [upd_ne (ne_of_none e nx), upd_ne (ne_of_none e nd)]; exact e
  exact ⟨fun b o e n => k.at_ b o (hne b o e) (ne_of_none e nx) n, fun b ps e => k.tb b ps (hne b _ e) (ne_of_none e nx), fun t => k.ts _ upd_same rfl (tabs_of hne t)⟩
theorem Same.over {H H' : Hp} {D : Addr} {o u : HO} (s : Same H H') (n : H D = Option.none) (e : H' D = Option.some u) (hu : flat u = true := by rfl) : Same H (L2.upd H' D o) :=
  ⟨fun b v h m => (upd_ne (ne_of_none h n)).trans (s.at_ b v h m), fun b ps h => let ⟨qs, z⟩ := s.tb b ps h; ⟨qs, (upd_ne (ne_of_none h n)).trans z⟩, fun t => tabs_upd e hu (s.ts t)⟩
theorem Same.made0 {H : Hp} {x dx C : Addr} (nx : H x = Option.none) (nd : H dx = Option.none) : Same H (L2.upd (L2.upd H dx (.own x)) x (.ins C dx [])) := .of fun b o e => by
  rw [upd_ne (ne_of_none e nx), upd_ne (ne_of_none e nd)]; exact e
theorem But.updOver {H H' : Hp} {x L : Addr} {o u : HO} [hu : Flat u] (b : But x H H') (n : H L = Option.none) (e : H' L = Option.some u) : But x H (L2.upd H' L o) :=
  ⟨fun c v h m z => (upd_ne (ne_of_none h n)).trans (b.at_ c v h m z), fun c ps h m => let ⟨qs, z⟩ := b.tb c ps h m; ⟨qs, (upd_ne (ne_of_none h n)).trans z⟩, fun v h f => let ⟨v', z, f'⟩ := b.me v h f; ⟨v', (upd_ne (ne_of_none h n)).trans z, f'⟩,
    fun v h f t => tabs_upd e hu.f (b.ts v h f t)⟩

theorem new_at {n : Nat} {o : HO} {H : Hp} {Q : VK} (hn : n ≤ 1000) (k : ∀ p H', H p = none → Same H H' → H' p = some o → Q (.ref p) H') : NewAt n o H Q :=
  ⟨Nat.le_trans hn (by decide), fun p hp => k p _ hp (Same.new hp) upd_same⟩
theorem new_of {o : HO} {H : Hp} {Q : VK} (k : ∀ p H', H p = none → Same H H' → H' p = some o → Q (.ref p) H') : ∀ p, H p = none → Q (.ref p) (upd H p o) := fun p hp => k p _ hp (Same.new hp) upd_same
section
variable {K : PySem.W.Frag} {σ : St} {H : Hp} {Q : VK} {ta tb tc : TE} {x y v : V} {D : Ends} {t u : TS} {QT : Bool → Hp → Prop} {QA : List V → Hp → Prop} {i j : Int} {n m : Nat}
theorem r_var (e : σ[n]? = some (some v)) (q : Q v H) : tVar n σ H Q := ⟨v, e, q⟩
theorem r_c (q : Q v H) : tC v σ H Q := q
theorem r_op {r : R2} (h : ta σ H fun x H1 => tb σ H1 fun y H2 => r x y H2 Q) : tOp r ta tb σ H Q := h
theorem r_un {r : V → Hp → VK → Prop} (h : ta σ H fun x H1 => r x H1 Q) : tUn r ta σ H Q := h
theorem r_I0 {g : Int → Int → V} (q : Q (g i j) H) : rI0 g (.int i) (.int j) H Q := ⟨i, j, rfl, rfl, q⟩
theorem r_I {C : Int → Int → Prop} {g : Int → Int → V} (c : C i j) (q : Q (g i j) H) : rI C g (.int i) (.int j) H Q := ⟨i, j, rfl, rfl, c, q⟩
theorem r_add (q : Q (.int (i + j)) H) : rAdd (.int i) (.int j) H Q := ⟨i, j, rfl, rfl, q⟩
theorem r_sub (q : Q (.int (i - j)) H) : rSub (.int i) (.int j) H Q := ⟨i, j, rfl, rfl, q⟩
theorem r_U {g : Int → V} (q : Q (g i) H) : rU g (.int i) H Q := ⟨i, rfl, q⟩
theorem r_eqI (q : Q (.bl (decide (i = j))) H) : rEq (.int i) (.int j) H Q := ⟨rfl, by
  have e : decide (V.int i = V.int j) = decide (i = j) := by
    by_cases h : i = j
    · subst h; rw [decide_eq_true rfl, decide_eq_true rfl]
    · rw [decide_eq_false h, decide_eq_false fun z => h (V.int.inj z)]
  rw [e]; exact q⟩
theorem r_neI (q : Q (.bl (!decide (i = j))) H) : rNe (.int i) (.int j) H Q := ⟨rfl, by
  have e : decide (V.int i = V.int j) = decide (i = j) := by
    by_cases h : i = j
    · subst h; rw [decide_eq_true rfl, decide_eq_true rfl]
    · rw [decide_eq_false h, decide_eq_false fun z => h (V.int.inj z)]
  rw [e]; exact q⟩
theorem r_ixL {p : Addr} {xs : List V} (h : H p = some (.lst xs)) (e : atI xs i = some v) (q : Q v H) : rIxL K (.ref p) (.int i) H Q := ⟨p, xs, i, v, rfl, rfl, SqL.of h, e, q⟩
theorem r_ixT {p : Addr} {xs : List V} (h : H p = some (.tup xs)) (e : atI xs i = some v) (q : Q v H) : rIxT K (.ref p) (.int i) H Q := ⟨p, xs, i, v, rfl, rfl, SqT.of h, e, q⟩
theorem r_test (h : ta σ H fun x H' => ∃ k, x = .bl k ∧ QT k H') : tTest ta σ H QT := h
theorem r_tB (h : ta σ H fun x H' => ∃ k, x = .bl k ∧ QT k H') : tB ta σ H QT := h
theorem r_bl {b : Bool} {R : Bool → Prop} (h : R b) : ∃ k, V.bl b = .bl k ∧ R k := ⟨b, rfl, h⟩
theorem r_not {t : TT} (h : t σ H fun c H1 => QT (!c) H1) : tNot t σ H QT := h
theorem r_and {t u : TT} (h : t σ H fun c H1 => if c = true then u σ H1 QT else QT false H1) : tAnd t u σ H QT := h
theorem r_or {t u : TT} (h : t σ H fun c H1 => if c = true then QT true H1 else u σ H1 QT) : tOr t u σ H QT := h
theorem r_notV (h : ta σ H fun x H1 => ∃ c, x = .bl c ∧ Q (.bl (!c)) H1) : tNotV ta σ H Q := h
theorem r_andV (h : ta σ H fun x H1 => ∃ c, x = .bl c ∧ if c = true then tb σ H1 Q else Q (.bl false) H1) : tAndV ta tb σ H Q := h
theorem r_orV (h : ta σ H fun x H1 => ∃ c, x = .bl c ∧ if c = true then Q (.bl true) H1 else tb σ H1 Q) : tOrV ta tb σ H Q := h
theorem r_ifE {t : TT} (h : t σ H fun c H1 => if c = true then ta σ H1 Q else tb σ H1 Q) : tIf t ta tb σ H Q := h
theorem r_seq (h : t { D with nx := u D } σ H) : tSeq t u D σ H := h
theorem r_next (h : D.nx σ H) : tNext D σ H := h
theorem r_brk (h : D.bk σ H) : tBreak D σ H := h
theorem r_cont (h : D.ct σ H) : tCont D σ H := h
theorem r_drop (h : ta σ H fun _ H1 => D.nx σ H1) : tDrop ta D σ H := h
theorem r_ret (h : ta σ H D.rt) : tRet ta D σ H := h
theorem r_ifS {c : TT} (h : c σ H fun b H1 => if b = true then t D σ H1 else u D σ H1) : tIfS c t u D σ H := h
theorem r_asg {g : TG} (h : ta σ H fun x H1 => g x σ H1 D.nx) : tAsg ta g D σ H := h
theorem r_gName {R : St → Hp → Prop} (h : R (σ.set n (some v)) H) : gName n v σ H R := h
theorem r_gSub {s : TSet} {R : St → Hp → Prop} (h : ta σ H fun o H1 => tb σ H1 fun i H2 => s o i v H2 fun H3 => R σ H3) : gSub ta tb s v σ H R := h
theorem r_setL {p : Addr} {xs : List V} {k : Nat} {R : Hp → Prop} (h : H p = some (.lst xs)) (e : ixN xs.length i = some k) (q : R (upd H p (.lst (xs.set k v)))) : rSetL (.ref p) (.int i) v H R := ⟨p, xs, i, k, rfl, rfl, h, e, q⟩
theorem r_aug {ti : TIp} (e : σ[n]? = some (some x)) (h : ta σ H fun y H1 => ti x y H1 fun z H2 => D.nx (σ.set n (some z)) H2) : tAug n ta ti D σ H := ⟨x, e, h⟩
theorem r_augS {tg : V → V → Hp → VK → Prop} {tip : TIp} {ts : TSet} (h : ta σ H fun o H1 => tb σ H1 fun i H2 => tg o i H2 fun x H3 => tc σ H3 fun y H4 => tip x y H4 fun z H5 => ts o i z H5 fun H6 => D.nx σ H6) : tAugS ta tb tc tg tip ts D σ H := h
theorem r_ip {f : Int → Int → Int} (q : Q (.int (f i j)) H) : ipI f (.int i) (.int j) H Q := ⟨i, j, rfl, rfl, q⟩
theorem r_nil (h : QA [] H) : tNil σ H QA := h
theorem r_cons {tr : TA} (h : ta σ H fun x H1 => tr σ H1 fun xs H2 => QA (x :: xs) H2) : tCons ta tr σ H QA := h
theorem r_tup {t : TA} (h : t σ H fun xs H1 => NewAt xs.length (.tup xs) H1 Q) : tTup t σ H Q := h
theorem r_lst {t : TA} (h : t σ H fun xs H1 => NewAt xs.length (.lst xs) H1 Q) : tLst t σ H Q := h
theorem r_CB {r : List V → Hp → VK → Prop} {t : TA} (h : t σ H fun vs H1 => r vs H1 Q) : tCB r t σ H Q := h
theorem r_call {sp : Sp} {dvs : List V} {E : XK} {t : TA} (h : t σ H fun vs H1 => sp (vs ++ dvs) H1 Q E) : tCall sp dvs E t σ H Q := h
theorem r_callN {k l : Nat} {sp : Sp} {gV : List V → List V → List V} {E : XK} {t tk : TA} (h : t σ H fun vs H1 => tk σ H1 fun zs H2 => vs.length = k ∧ zs.length = l ∧ sp (gV vs zs) H2 Q E) : tCallN k l sp gV E t tk σ H Q := h
theorem r_fld {p C dx : Addr} {fs : List (Str × V)} {f : Str} {R : V → Prop} (hc : Cls K C) (hn : NoAttr K C f) (hx : H p = some (.ins C dx fs)) (e : fs.lookup f = some v) (q : R v) : (∃ a C dx fs v, V.ref p = .ref a ∧ H a = some (.ins C dx fs) ∧ Cls K C ∧ NoAttr K C f ∧ fs.lookup f = some v ∧ R v) := ⟨p, C, dx, fs, v, rfl, hx, hc, hn, e, q⟩
theorem r_tFld {f : Str} (h : ta σ H fun x H1 => ∃ a C dx fs v, x = .ref a ∧ H1 a = some (.ins C dx fs) ∧ Cls K C ∧ NoAttr K C f ∧ fs.lookup f = some v ∧ Q v H1) : tFld K ta f σ H Q := h
theorem r_sl {r : V → Option Int → Option Int → Hp → VK → Prop} {tl th : TO} (h : ta σ H fun x H1 => tl σ H1 fun l H2 => th σ H2 fun u H3 => r x l u H3 Q) : tSl r ta tl th σ H Q := h
theorem r_noP {R : Option Int → Hp → Prop} (h : R none H) : tNoPart σ H R := h
theorem r_part {R : Option Int → Hp → Prop} (h : ta σ H fun x H1 => ∃ i, x = .int i ∧ R (some i) H1) : tPart ta σ H R := h
theorem r_in {R : Int → Prop} (h : R i) : ∃ k, V.int i = .int k ∧ R k := ⟨i, rfl, h⟩
theorem r_Bm {T : String} {r : V → List V → Hp → VK → Prop} {t : TA} (h : ta σ H fun x H1 => tyV K T x H1 ∧ t σ H1 fun xs H2 => r x xs H2 Q) : tBM K T r ta t σ H Q := h
theorem r_app {l : Addr} {xs : List V} (h : H l = some (.lst xs)) (hz : xs.length < sizeLine) (q : Q .non (upd H l (.lst (xs ++ [y])))) : rAppend (.ref l) [y] H Q := ⟨l, xs, y, rfl, rfl, h, hz, q⟩
end
theorem at_nat {ns : List Int} {i : Int} (h0 : 0 ≤ i) (h : i < (ns.map V.int).length) : ∃ n, atI (ns.map V.int) i = some (.int n) ∧ n ∈ ns := by
  obtain ⟨j, rfl⟩ : ∃ j : Nat, i = j := ⟨i.toNat, by omega⟩
  rw [List.length_map] at h
  have hj : j < ns.length := by omega
  exact ⟨ns[j], atI_nat (by rw [List.getElem?_map, List.getElem?_eq_getElem hj]; rfl), List.getElem_mem hj⟩
theorem fmod_nn {a b : Int} (h : 0 < b) : 0 ≤ a.fmod b := by rw [Int.fmod_eq_emod_of_nonneg a (by omega)]; exact Int.emod_nonneg a (by omega)
theorem fmod_lt {a b : Int} (h : 0 < b) : a.fmod b < b := by rw [Int.fmod_eq_emod_of_nonneg a (by omega)]; exact Int.emod_lt_of_pos a h
theorem lim_div {lim : Int} (h0 : 0 < lim) (h : lim < 2 ^ 200) : CDivW lim lim := wide_div (b := 200) h0 (by omega) (by decide) (by decide)
theorem cdiv_of {i lim : Int} (h0 : 0 < lim) (h : lim < 2 ^ 200) : CDivW i lim := ⟨h0, (lim_div h0 h).2⟩
theorem mulL {i j : Int} (h1 : -(2 ^ 64) < i) (h2 : i < 2 ^ 64) : CMul i j := Or.inl ⟨h1, h2⟩
theorem mulR {i j : Int} (h1 : -(2 ^ 64) < j) (h2 : j < 2 ^ 64) : CMul i j := Or.inr ⟨h1, h2⟩
theorem powOk {i j : Int} (h1 : 0 ≤ j) (h2 : j ≤ 1000000) (h3 : i.natAbs < 2 ^ 64) : CPow i j := ⟨h1, h2, h3⟩
theorem r_for {wi : TI} {g : TG} {tb : TS} {D : Ends} {σ : St} {H : Hp} (h : wi σ H fun J H1 => ∃ W : Nat → Nat → St → Hp → Prop, (∃ m, W 0 m σ H1) ∧ ∀ i m σ H, W i m σ H →
  (J.stop i H ∧ D.nx σ H) ∨ (J.go i H ∧ ∃ N : St → Hp → Prop, (∀ σ' H', N σ' H' → ∃ m', m' < m ∧ W (i + 1) m' σ' H') ∧ ∀ x H', J.yld i H x H' → g x σ H' fun σ2 H2 => tb { D with nx := N, ct := N, bk := D.nx } σ2 H2)) : tFor wi g tb D σ H := h
theorem r_iR1 {ta : TA} {σ : St} {H : Hp} {R : It → Hp → Prop} (h : ta σ H fun vs H1 => ∃ j : Int, vs = [.int j] ∧ -(2 ^ 62) ≤ j ∧ j < 2 ^ 62 ∧ R (Itr 0 j.toNat) H1) : iRng1 ta σ H R := h
theorem r_iR2 {ta : TA} {σ : St} {H : Hp} {R : It → Hp → Prop} (h : ta σ H fun vs H1 => ∃ i j : Int, vs = [.int i, .int j] ∧ (-(2 ^ 62) ≤ i ∧ i < 2 ^ 62 ∧ -(2 ^ 62) ≤ j ∧ j < 2 ^ 62) ∧ R (Itr i (j - i).toNat) H1) : iRng2 ta σ H R := h
theorem r_tMeth {C : Addr} {m : Str} {sp : Sp} {dvs : List V} {E : XK} {ta : TE} {t : TA} {σ : St} {H : Hp} {Q : VK} (h : ta σ H fun x H1 => ∃ a dx fs, x = .ref a ∧ H1 a = some (.ins C dx fs) ∧ fs.lookup m = none ∧ t σ H1 fun vs H2 => sp (x :: (vs ++ dvs)) H2 Q E) : tMeth C m sp dvs E ta t σ H Q := h
theorem r_meth {C p dx : Addr} {fs : List (Str × V)} {m : Str} {H : Hp} {R : Prop} (hx : H p = some (.ins C dx fs)) (hl : fs.lookup m = none) (q : R) : ∃ a dx fs, V.ref p = .ref a ∧ H a = some (.ins C dx fs) ∧ fs.lookup m = none ∧ R := ⟨p, dx, fs, rfl, hx, hl, q⟩
theorem r_iT {K : PySem.W.Frag} {tl : TE} {σ : St} {H : Hp} {R : It → Hp → Prop} (h : tl σ H fun x H1 => ∃ a, x = .ref a ∧ (∃ xs, SqT K H1 a xs) ∧ R (Itt K a) H1) : iTup K tl σ H R := h
theorem r_iL {K : PySem.W.Frag} {tl : TE} {σ : St} {H : Hp} {R : It → Hp → Prop} (h : tl σ H fun x H1 => ∃ a, x = .ref a ∧ (∃ xs, SqL K H1 a xs) ∧ R (Itl K a) H1) : iList K tl σ H R := h
theorem r_lc {wi : TI} {g : TG} {tt : TT} {te : TE} {vs : List Nat} {σ : St} {H : Hp} {Q : VK} (h : wi σ H fun J H1 => ∀ D, H1 D = none → ∃ W : Nat → Nat → Hp → Prop, (∃ m, W 0 m (upd H1 D (.lst []))) ∧ ∀ i m H, W i m H →
  (J.stop i H ∧ Q (.ref D) H) ∨ (J.go i H ∧ ∃ Nx : Hp → Prop, (∀ H', Nx H' → ∃ m', m' < m ∧ W (i + 1) m' H') ∧ ∀ x H', J.yld i H x H' → g x (wipe σ vs) H' fun σ2 H2 => wipe σ2 vs = wipe σ vs ∧ tt σ2 H2 fun b H3 =>
    if b = true then te σ2 H3 fun y H4 => ∃ acc, H4 D = some (.lst acc) ∧ acc.length < sizeLine ∧ Nx (upd H4 D (.lst (acc ++ [y]))) else Nx H3)) : tLc wi g tt te vs σ H Q := h
theorem r_isiI {K : PySem.W.Frag} {H : Hp} {Q : VK} {i : Int} {n : String} (b : Bool) (h : kitB "int" n = some b) (q : Q (.bl b) H) : rIsi K [.int i, .ty n] H Q := ⟨_, _, .type "int", .type n, b, rfl, .ty n, .base (.int i), kit_ty h, q⟩
theorem r_isiB {K : PySem.W.Frag} {H : Hp} {Q : VK} {i : Bool} {n : String} (b : Bool) (h : kitB "bool" n = some b) (q : Q (.bl b) H) : rIsi K [.bl i, .ty n] H Q := ⟨_, _, .type "bool", .type n, b, rfl, .ty n, .base (.bl i), kit_ty h, q⟩
theorem r_slL {K : PySem.W.Frag} {H : Hp} {Q : VK} {a : Addr} {xs : List V} {lo hi : Option Int} (h : SqL K H a xs) (q : ∀ p H', H p = none → Same H H' → H' p = some (.lst (cutV xs lo hi)) → Q (.ref p) H') : rSlL K (.ref a) lo hi H Q := ⟨a, xs, rfl, h, new_of q⟩
theorem r_slT {K : PySem.W.Frag} {H : Hp} {Q : VK} {a : Addr} {xs : List V} {lo hi : Option Int} (h : SqT K H a xs) (hn : ¬ (HT.sIx xs.length 0 lo = 0 ∧ HT.sIx xs.length xs.length hi = xs.length)) (q : ∀ p H', H p = none → Same H H' → H' p = some (.tup (cutV xs lo hi)) → Q (.ref p) H') : rSlT K (.ref a) lo hi H Q := ⟨a, xs, rfl, h, hn, new_of q⟩
def rListOf (K : PySem.W.Frag) : List V → Hp → VK → Prop := fun xs H Q => ∃ p ys, xs = [.ref p] ∧ (SqL K H p ys ∨ SqT K H p ys) ∧ ∀ l, H l = none → Q (.ref l) (upd H l (.lst ys))
def rTupOf (K : PySem.W.Frag) : List V → Hp → VK → Prop := fun xs H Q => ∃ p ys, xs = [.ref p] ∧ ((SqL K H p ys ∧ ∀ l, H l = none → Q (.ref l) (upd H l (.tup ys))) ∨ (SqT K H p ys ∧ Q (.ref p) H))
theorem cr_list {X : Cx} : CallR X (.type "list") (rListOf X.K) := call_list_of
theorem cr_tup {X : Cx} : CallR X (.type "tuple") (rTupOf X.K) := call_tuple_of
theorem r_listS {K : PySem.W.Frag} {H : Hp} {Q : VK} {a : Addr} {xs : List V} (h : SqL K H a xs ∨ SqT K H a xs) (q : ∀ p H', H p = none → Same H H' → H' p = some (.lst xs) → Q (.ref p) H') : rListOf K [.ref a] H Q := ⟨a, xs, rfl, h, new_of q⟩
theorem r_listL {K : PySem.W.Frag} {H : Hp} {Q : VK} {a : Addr} {xs : List V} (h : H a = some (.lst xs)) (q : ∀ p H', H p = none → Same H H' → H' p = some (.lst xs) → Q (.ref p) H') : rListOf K [.ref a] H Q := r_listS (.inl (SqL.of h)) q
theorem r_listT {K : PySem.W.Frag} {H : Hp} {Q : VK} {a : Addr} {xs : List V} (h : H a = some (.tup xs)) (q : ∀ p H', H p = none → Same H H' → H' p = some (.lst xs) → Q (.ref p) H') : rListOf K [.ref a] H Q := r_listS (.inr (SqT.of h)) q
theorem r_tupL {K : PySem.W.Frag} {H : Hp} {Q : VK} {a : Addr} {xs : List V} (h : H a = some (.lst xs)) (q : ∀ p H', H p = none → Same H H' → H' p = some (.tup xs) → Q (.ref p) H') : rTupOf K [.ref a] H Q := ⟨a, xs, rfl, .inl ⟨SqL.of h, new_of q⟩⟩
theorem r_tupT {K : PySem.W.Frag} {H : Hp} {Q : VK} {a : Addr} {xs : List V} (h : H a = some (.tup xs)) (q : Q (.ref a) H) : rTupOf K [.ref a] H Q := ⟨a, xs, rfl, .inr ⟨SqT.of h, q⟩⟩
theorem r_nF {A B : Prop} (h : A) : if (!false) = true then A else B := h
theorem r_nT {A B : Prop} (h : B) : if (!true) = true then A else B := by
  rw [if_neg (by decide)]
  exact h
theorem r_nD {c A B : Prop} [Decidable c] (h1 : ¬ c → A) (h2 : c → B) : if (!decide c) = true then A else B := by
  by_cases hc : c
  · rw [decide_eq_true hc]; exact r_nT (h2 hc)
  · rw [decide_eq_false hc]; exact r_nF (h1 hc)
theorem cut_take {xs : List V} {k : Int} (h : (xs.length : Int) ≤ k) : cutV xs none (some k) = xs := by
  have e : HT.sIx xs.length xs.length (some k) = xs.length := by
    show (if k < 0 then (k + (xs.length : Int)).toNat else min k.toNat xs.length) = xs.length
    rw [if_neg (by omega)]; omega
  unfold cutV
  rw [e]
  show (xs.drop 0).take (xs.length - 0) = xs
  simp
theorem r_yes {σ : St} {H : Hp} {R : Bool → Hp → Prop} (h : R true H) : tYes σ H R := h
theorem int_of_get {ns : List Int} {i : Nat} {y : V} (h : (ns.map V.int)[i]? = some y) : ∃ z, ns[i]? = some z ∧ y = V.int z := by
  rw [List.getElem?_map] at h
  cases e : ns[i]? with
  | none => rw [e] at h; cases h
  | some z => rw [e] at h; exact ⟨z, rfl, (Option.some.inj h).symm⟩
theorem take_more {α : Type} {l : List α} {i : Nat} {x : α} (h : l[i]? = some x) : l.take (i + 1) = l.take i ++ [x] := by
  rw [List.take_succ, h]; rfl
theorem r_chain {r r' : R2} {ta tb tc : TE} {σ : St} {H : Hp} {Q : VK} (h : ta σ H fun x H1 => tb σ H1 fun y H2 => r x y H2 fun z H3 => ∃ k, z = .bl k ∧ (if k = true then tc σ H3 fun w' H4 => r' y w' H4 Q else Q (.bl false) H3)) : tChain r r' ta tb tc σ H Q := h
theorem r_sFld {K : PySem.W.Frag} {ta tv : TE} {f : Str} {D : Ends} {σ : St} {H : Hp} (h : tv σ H fun y H1 => ta σ H1 fun x H2 => ∃ a C dx fs, x = .ref a ∧ H2 a = some (.ins C dx fs) ∧ Cls K C ∧ NoAttr K C f ∧ fs.length < 1000 ∧ D.nx σ (upd H2 a (.ins C dx (putF f y fs)))) : sFld K ta tv f D σ H := h
theorem r_put {K : PySem.W.Frag} {p C dx : Addr} {fs : List (Str × V)} {f : Str} {H : Hp} {R : Addr → Addr → Addr → List (Str × V) → Prop} (hc : Cls K C) (hn : NoAttr K C f) (hx : H p = some (.ins C dx fs)) (hl : fs.length ≤ 900) (q : R p C dx fs) :
    ∃ a C dx fs, V.ref p = .ref a ∧ H a = some (.ins C dx fs) ∧ Cls K C ∧ NoAttr K C f ∧ fs.length < 1000 ∧ R a C dx fs := ⟨p, C, dx, fs, rfl, hx, hc, hn, by omega, q⟩
theorem putF_len (f : Str) (v : V) : ∀ fs : List (Str × V), (putF f v fs).length ≤ fs.length + 1
  | [] => Nat.le_refl _
  | (g, x) :: r => by
    unfold putF
    by_cases h : g = f
    · rw [if_pos h, List.length_cons, List.length_cons]; omega
    · rw [if_neg h, List.length_cons, List.length_cons]
      have := putF_len f v r
      omega
theorem putF_le {f : Str} {v : V} {fs : List (Str × V)} {n : Nat} (h : fs.length ≤ n) : (putF f v fs).length ≤ n + 1 := Nat.le_trans (putF_len f v fs) (by omega)
def MakeAt (C : Addr) (sp : Sp) (vs : List V) (E : XK) (H : Hp) (Q : VK) : Prop := ∀ x dx, H x = none → H dx = none → dx ≠ x → sp (.ref x :: vs) (upd (upd H dx (.own x)) x (.ins C dx [])) (fun v H2 => v = .non ∧ Q (.ref x) H2) E
theorem r_make {C : Addr} {sp : Sp} {dvs : List V} {E : XK} {t : TA} {σ : St} {H : Hp} {Q : VK} (h : t σ H fun vs H1 => MakeAt C sp (vs ++ dvs) E H1 Q) : tMake C sp dvs E t σ H Q := h
def rIsNo : R2 := fun x y H Q => y = .non ∧ Q (.bl (decide (x = .non))) H
def rNotNo : R2 := fun x y H Q => y = .non ∧ Q (.bl (!decide (x = .non))) H
theorem op_isNo {X : Cx} : OpR X (compareOp .Is) rIsNo := op_isN
theorem op_notNo {X : Cx} : OpR X (compareOp .IsNot) rNotNo := op_notN
theorem r_isNn {H : Hp} {Q : VK} (q : Q (.bl true) H) : rIsNo .non .non H Q := ⟨rfl, q⟩
theorem r_isNi {H : Hp} {Q : VK} {i : Int} (q : Q (.bl false) H) : rIsNo (.int i) .non H Q := ⟨rfl, q⟩
theorem r_isNr {H : Hp} {Q : VK} {i : Addr} (q : Q (.bl false) H) : rIsNo (.ref i) .non H Q := ⟨rfl, q⟩
theorem r_notNn {H : Hp} {Q : VK} (q : Q (.bl false) H) : rNotNo .non .non H Q := ⟨rfl, q⟩
theorem r_notNi {H : Hp} {Q : VK} {i : Int} (q : Q (.bl true) H) : rNotNo (.int i) .non H Q := ⟨rfl, q⟩
theorem r_notNr {H : Hp} {Q : VK} {i : Addr} (q : Q (.bl true) H) : rNotNo (.ref i) .non H Q := ⟨rfl, q⟩
theorem r_lenS {K : PySem.W.Frag} {H : Hp} {p : Addr} {xs : List V} {R : List V → Prop} (h : SqL K H p xs ∨ SqT K H p xs) (q : R xs) : ∃ (p1 : Addr) (ys : List V), [V.ref p] = [.ref p1] ∧ (SqL K H p1 ys ∨ SqT K H p1 ys) ∧ R ys := ⟨p, xs, rfl, h, q⟩
theorem r_lenL {K : PySem.W.Frag} {H : Hp} {p : Addr} {xs : List V} {R : List V → Prop} (h : H p = some (.lst xs)) (q : R xs) : ∃ (p1 : Addr) (ys : List V), [V.ref p] = [.ref p1] ∧ (SqL K H p1 ys ∨ SqT K H p1 ys) ∧ R ys := ⟨p, xs, rfl, .inl (SqL.of h), q⟩
theorem r_lenT {K : PySem.W.Frag} {H : Hp} {p : Addr} {xs : List V} {R : List V → Prop} (h : H p = some (.tup xs)) (q : R xs) : ∃ (p1 : Addr) (ys : List V), [V.ref p] = [.ref p1] ∧ (SqL K H p1 ys ∨ SqT K H p1 ys) ∧ R ys := ⟨p, xs, rfl, .inr (SqT.of h), q⟩
theorem r_in1 {i : Int} {R : Int → Prop} (h : R i) : ∃ k, [V.int i] = [.int k] ∧ R k := ⟨i, rfl, h⟩
theorem r_in2 {i j : Int} {R : Int → Int → Prop} (h : R i j) : ∃ k l, [V.int i, V.int j] = [.int k, .int l] ∧ R k l := ⟨i, j, rfl, h⟩
/-- the source of draws at p, its cells at q -/
def SrcAt (H : Hp) (p q : Addr) : Prop := ∃ (cs : List Int) (i big cnt st : Int), H p = some (.lst [.ref q, .int i, .int big, .int cnt, .int st]) ∧ H q = some (.lst (cs.map V.int)) ∧ q ≠ p ∧ 0 ≤ i ∧ 0 ≤ big ∧ cs.length ≤ 63
theorem SrcAt.keep {H H' : Hp} {p q : Addr} (h : SrcAt H p q) (s : Same H H') : SrcAt H' p q := by
  obtain ⟨cs, i, big, cnt, st, h1, h2, h3⟩ := h
  exact ⟨cs, i, big, cnt, st, s _ _ h1, s _ _ h2, h3⟩
theorem SrcAt.upd {H : Hp} {p q x : Addr} {o : HO} (h : SrcAt H p q) (h1 : x ≠ p) (h2 : x ≠ q) : SrcAt (upd H x o) p q := by
  obtain ⟨cs, i, big, cnt, st, e1, e2, h3⟩ := h
  exact ⟨cs, i, big, cnt, st, (upd_ne h1.symm).trans e1, (upd_ne h2.symm).trans e2, h3⟩
theorem SrcAt.ne {H : Hp} {p q x : Addr} (h : SrcAt H p q) (hx : H x = none) : x ≠ p := by
  obtain ⟨cs, i, big, cnt, st, h1, _⟩ := h
  exact (ne_of_none h1 hx).symm
theorem SrcAt.neq {H : Hp} {p q x : Addr} (h : SrcAt H p q) (hx : H x = none) : x ≠ q := by
  obtain ⟨cs, i, big, cnt, st, _, h1, _⟩ := h
  exact (ne_of_none h1 hx).symm
theorem But.free {p q : Addr} {H H' : Hp} (b : But p H H') (hs : SrcAt H' p q) {x : Addr} (hx : H' x = none) : H x = none := by
  cases e : H x with
  | none => rfl
  | some o =>
    obtain ⟨u, z⟩ := b.some e (hs.ne hx)
    rw [hx] at z
    cases z
theorem seq_with {t1 t2 : TS} {D : Ends} {σ : St} {H : Hp} (P : St → Hp → Prop) (h2 : ∀ σ H, P σ H → t2 D σ H) (h1 : (∀ σ H, P σ H → t2 D σ H) → t1 { D with nx := t2 D } σ H) : tSeq t1 t2 D σ H := h1 h2
theorem pe_fldK {X : Cx} {K : PySem.W.Frag} {e : Expr} {f : Str} {pos : Pos} {ta : TE} (hK : X.K = K) (he : PE X e ta) (hb : attributeBase e f X.env (eval e X.env) = eval e X.env) : PE X (.Attribute e f pos) (tFld K ta f) := by
  subst hK; exact pe_fld he hb
theorem r_cat {H : Hp} {Q : VK} {l b : Addr} {xs zs : List V} (h1 : H l = some (.lst xs)) (h2 : H b = some (.lst zs)) (hn : xs.length + zs.length ≤ 1000) (q : ∀ p H', H p = none → Same H H' → H' p = some (.lst (xs ++ zs)) → Q (.ref p) H') : rCat (.ref l) (.ref b) H Q :=
  ⟨l, b, xs, zs, rfl, rfl, h1, h2, Nat.le_trans hn (by decide), new_of q⟩
theorem r_min {K : PySem.W.Frag} {H : Hp} {Q : VK} {l : Addr} {ns : List Int} (h1 : H l = some (.lst (ns.map V.int))) (hn : 0 < ns.length) (q : ∀ m, m ∈ ns → (∀ y, y ∈ ns → m ≤ y) → Q (.int m) H) : rMin K [.ref l] H Q :=
  ⟨l, ns, rfl, SqL.of h1, hn, q⟩
section
variable {X : Cx} {K : PySem.W.Frag}
theorem ix_listK (hK : X.K = K) : IxR X (rIxL K) := by subst hK; exact ix_list
theorem ix_tupK (hK : X.K = K) : IxR X (rIxT K) := by subst hK; exact ix_tup
theorem call_len_seqK (hK : X.K = K) : CallR X (.builtin "len") (fun xs H Q => ∃ p ys, xs = [.ref p] ∧ (SqL K H p ys ∨ SqT K H p ys) ∧ Q (.int ys.length) H) := by subst hK; exact call_len_seq
theorem call_isiK (hK : X.K = K) : CallR X (.builtin "isinstance") (rIsi K) := by subst hK; exact call_isi
theorem cr_listK (hK : X.K = K) : CallR X (.type "list") (rListOf K) := by subst hK; exact cr_list
theorem cr_tupK (hK : X.K = K) : CallR X (.type "tuple") (rTupOf K) := by subst hK; exact cr_tup
theorem pg_tupK {es : List Expr} {k n : Nat} {t : TGs} {pos : Pos} (hK : X.K = K) (hc : X.calm = true) (h : PGs X es t)
    (hn : (assignEach es X.env).length = n := by rfl) (hst : (assignEach es X.env).findIdx? (·.1) = none := by rfl) : PG X (.Tuple es k pos) (gTup K n t) := by subst hK; exact pg_tup hc h hn hst
end

theorem But.tabs {p q : Addr} {H H' : Hp} (b : But p H H') (hs : SrcAt H p q) (t : TbsOk H) : TbsOk H' := by
  obtain ⟨cs, i, big, cnt, st, h1, _⟩ := hs
  exact b.ts _ h1 rfl t
/-! ### a def whose code object is known, a lambda of one parameter handed to a def as its last argument -/
structure FunC (K : PySem.W.Frag) (x qual : Str) (st : Stmt) (f : Addr) (fd : FuncData) (c : Addr) : Prop where
  ex : ∃ (oc : Value) (od : Option Addr) (kV doc pm : Value) (an : Option Addr) (ct : Value) (osl : Array (Option Value)),
    fd = PySem.W.fnOf x qual (defArgs st) (defBody st) (defScope st) .none kV doc pm an (.ref c) ct ∧ K.lookup f = some ⟨oc, od, .func fd, osl⟩ ∧ PySem.W.codeIn K (.ref c) qual = true
  kp : PySem.W.keepIn K (.ref f) = true
theorem FunC.toFun {K : PySem.W.Frag} {x qual : Str} {st : Stmt} {f c : Addr} {fd : FuncData} (F : FunC K x qual st f fd c) : Fun K x qual st f fd :=
  let ⟨oc, od, kV, doc, pm, an, ct, osl, h1, h2, h3⟩ := F.ex; ⟨⟨oc, od, kV, doc, pm, an, .ref c, ct, osl, h1, h2, h3⟩, F.kp⟩
section
variable {P : Program} {w : World} {K : PySem.W.Frag} {mg : Str → Option Value} {base : Heap}
theorem FunC.ok {CX : CXT} {x qual : Str} {st : Stmt} {f c : Addr} {fd : FuncData} {N ps : List Str} {k : Nat} {sp : Sp} (F : FunC K x qual st f fd c) (S : FnScope N ps (defScope st)) (len : ∀ vs H Q E, sp vs H Q E → vs.length = ps.length)
    (hbody : ∀ (A : Around) (outer : List Env) (s : Shared) (H : Hp) (vs : List V) (Q : VK) (E : XK), Room k (A.deeper (PyProof.Rows.envOfC qual (defScope st) s.heap.objs.size f (.ref c))) → sp vs H Q E →
      ∃ t, PSs (cxOf CX P w K mg base N qual (defScope st) f (.ref c) A outer s H E) (defBody st) t ∧ t { nx := fun _ H' => Q .non H', rt := Q } (start N vs) H) : FnOk P w K mg base CX (k + 1) f fd ps sp := by
  obtain ⟨oc, od, kV, doc, pm, an, ct, osl, rfl, lk, hcd⟩ := F.ex
  exact fn_of lk hcd S len fun A outer s H vs Q E hr hsp => hbody A outer s H vs Q E hr hsp
theorem func_mk {x qual : Str} {st : Stmt} {f c : Addr} {oc : Value} {od an : Option Addr} {osl : Array (Option Value)} {kV doc pm ct : Value} (l : K.lookup f = some ⟨oc, od, .func (PySem.W.fnOf x qual (defArgs st) (defBody st) (defScope st) .none kV doc pm an (.ref c) ct), osl⟩)
    (h : PySem.W.codeIn K (.ref c) qual = true) (k : PySem.W.keepIn K (.ref f) = true) : FunC K x qual st f (PySem.W.fnOf x qual (defArgs st) (defBody st) (defScope st) .none kV doc pm an (.ref c) ct) c := ⟨⟨oc, od, kV, doc, pm, an, ct, osl, rfl, l, h⟩, k⟩
end
/-! ### the making of a lambda: what is new is its code object, at first, and what grows is the maker's table -/
/-- all tracked stays but what stands at P; at P a table has grown -/
structure Grown (P : Addr) (H H' : Hp) : Prop where
  at_ : ∀ b o, H b = some o → b ≠ P → H' b = some o
  tb : ∃ ps, H' P = some (.tbl ps)
theorem Grown.same [Tn] {P : Addr} {H H' : Hp} {ps : Array Value} (g : Grown P H H') (hP : H P = some (.tbl ps)) (t : TbsOk H') : Same H H' where
  at_ := fun b o h n => g.at_ b o h fun z => by rw [z, hP] at h; cases h; cases n
  tb := fun b qs h => by
    by_cases z : b = P
    · exact z ▸ g.tb
    · exact ⟨qs, g.at_ b _ h z⟩
  ts := fun _ => t
section
variable {X : Cx} {pins : List (Addr × Obj)} {σ : L2.St} {H : Hp} {s : Shared}
theorem lam_make [Tn] {c P : Addr} {params : Arguments} {body : Expr} {scope : Scope} {pos : Pos} {E Q : Value → Shared → Prop} (I : Inv X pins σ H s) (B : LamX.TabB X.base X.mg c P) (hc : X.env.code = .ref c)
    (hm : (P, X.env.qual ++ "<lambda>") ∈ Tn.t) (hu : ∀ p ∈ Tn.t, p.1 = P → p.2 = X.env.qual ++ "<lambda>") (hT : TbsOk H) (hd : defaultsOf params X.env = ([], [])) (hf : ∀ y ∈ scope.names, y.2 = .free → ∃ c, X.env.cells.lookup y.1 = some c)
    (k : ∀ (f c' : Addr) (pm ctv : Value) (H' : Hp) (s' : Shared), Inv X pins σ H' s' → Same H H' →
      s'.heap.get? f = some (PySem.W.kla_obj "<lambda>" (X.env.qual ++ "<lambda>") params body scope (cloFrom X.env.cells scope.names []) pm c' ctv) → H' f = none → f ∉ frs X.stack → H' c' = some (LamX.CodeO c' (X.env.qual ++ "<lambda>")) → Q (.ref f) s') :
    wpAny (model X.prog X.w) X.A (eval (.Lambda params body scope pos) X.env) Q E s := by
  obtain ⟨ps, tP, tOk, tA⟩ := hT _ hm
  have gP : s.heap.get? P = some { cls := .none, data := .fields ps } := I.hok P _ tP
  have bP := B.bm.keeps I.bk
  have out : ∀ f, s.heap.objs.size ≤ f → f ∉ frs X.stack := fun f le z => by
    rcases List.mem_cons.mp (I.stkSub _ z) with e | e
    · exact Nat.not_lt.mpr le (e ▸ I.lt)
    · exact I.nofs le e
  refine PySem.W.kla_eval hd ?_
  cases known : codeAmong pos ps.toList with
  | some cv =>
    obtain ⟨c', rfl, hco⟩ := tA pos cv known
    refine PySem.W.kla_makeFunctionHit (mg := X.mg) (c := c) (P := P) (ps := ps) (closure_ok hf) I.ok.glob (I.mod.glob.keeps I.bk) hc (B.code.keeps I.bk) gP tOk known bP fun ctv h' tk hk le => ?_
    exact k h'.objs.size c' _ ctv H _ (I.kept fun b o e => Heap.get?_push_of_some _ (hk b o e)) (Same.refl H) (Heap.get?_push_size _ rfl) (I.hok.fresh le) (out _ le) hco
  | none =>
    refine PySem.W.kla_makeFunction (mg := X.mg) (c := c) (P := P) (ps := ps) (closure_ok hf) I.ok.glob (I.mod.glob.keeps I.bk) hc (B.code.keeps I.bk) gP tOk known B.gP bP fun c' ctv h' tk hk le lt rec tb => ?_
    obtain ⟨c2, oc, vs, t, ec, hoc, ed, ev⟩ := rec
    cases ec
    have le' : s.heap.objs.size ≤ h'.objs.size := by omega
    have nc : H c' = none := I.hok.fresh le
    have ne : P ≠ c' := ne_of_none tP nc
    have J := LamX.inv_table (t' := tk) (more := #[rawInt pos.line, rawInt pos.col, .ref c']) (h' := h'.push (PySem.W.kla_obj "<lambda>" (X.env.qual ++ "<lambda>") params body scope (cloFrom X.env.cells scope.names []) ((X.mg "__name__").getD .none) c' ctv)) I tP
      (fun b o n e => Heap.get?_push_of_some _ (hk b o n e)) (Heap.get?_push_of_some _ tb) le ⟨oc, vs, t, Heap.get?_push_of_some _ hoc, ed, ev⟩
    have g : Grown P H (upd (upd H P (.tbl (ps ++ #[rawInt pos.line, rawInt pos.col, .ref c']))) c' (LamX.CodeO c' (X.env.qual ++ "<lambda>"))) :=
      ⟨fun b o e n => by rw [upd_ne (ne_of_none e nc), upd_ne n]; exact e, ⟨_, by rw [upd_ne ne, upd_same]⟩⟩
    have tT : TbsOk (upd (upd H P (.tbl (ps ++ #[rawInt pos.line, rawInt pos.col, .ref c']))) c' (LamX.CodeO c' (X.env.qual ++ "<lambda>"))) := fun q hq => by
      have eL : (ps ++ #[rawInt pos.line, rawInt pos.col, .ref c']).toList = ps.toList ++ [rawInt pos.line, rawInt pos.col, .ref c'] := by simp
      by_cases z : q.1 = P
      · rw [hu q hq z, z]
        refine ⟨_, by rw [upd_ne ne, upd_same], by rw [eL]; exact PySem.TriplesOk_snoc _ _ _ _ tOk, fun p' cv hcv => ?_⟩
        rw [eL] at hcv
        rcases LamX.among_app _ tOk hcv with old | new
        · obtain ⟨c0, e1, e2⟩ := tA p' cv old
          exact ⟨c0, e1, g.at_ _ _ e2 fun y => by rw [y, tP] at e2; cases e2⟩
        · exact ⟨c', new, upd_same⟩
      · obtain ⟨qs, a1, a2, a3⟩ := hT q hq
        refine ⟨qs, g.at_ _ _ a1 z, a2, fun p' cv hcv => ?_⟩
        obtain ⟨c0, e1, e2⟩ := a3 p' cv hcv
        exact ⟨c0, e1, g.at_ _ _ e2 fun y => by rw [y, tP] at e2; cases e2⟩
    have nf : h'.objs.size ≠ c' ∧ h'.objs.size ≠ P := ⟨Nat.ne_of_gt lt, Nat.ne_of_gt (Nat.lt_of_lt_of_le (Heap.lt_size gP) le')⟩
    exact k h'.objs.size c' _ ctv _ _ J (g.same tP tT) (Heap.get?_push_size _ rfl) (by rw [upd_ne nf.1, upd_ne nf.2]; exact I.hok.fresh le') (out _ le') upd_same
end
/-- one parameter t, captured names and globals -/
structure LamS1 (sc scope : Scope) (t : Str) : Prop where
  kind : scope.kind = .function
  co : scope.isCoroutine = false
  gen : scope.isGenerator = false
  nocell : ∀ y ∈ scope.names, y.2 ≠ .cell
  own : ∀ y ∈ scope.names, y.2 = .local → y.1 = t
  tl : scope.names.lookup t = some .local
  free : ∀ y ∈ scope.names, y.2 = .free → sc.names.lookup y.1 = some .cell ∨ sc.names.lookup y.1 = some .free
def lamS1B (sc scope : Scope) (t : Str) : Bool :=
  decide (scope.kind = .function) && !scope.isCoroutine && !scope.isGenerator && decide (scope.names.lookup t = some .local) && scope.names.all fun y => !decide (y.2 = .cell) && (!decide (y.2 = .local) || decide (y.1 = t)) && (!decide (y.2 = .free) || decide (sc.names.lookup y.1 = some .cell) || decide (sc.names.lookup y.1 = some .free))
theorem lamS1_by {sc scope : Scope} {t : Str} (h : lamS1B sc scope t = true) : LamS1 sc scope t := by
  unfold lamS1B at h
  simp only [Bool.and_eq_true, Bool.or_eq_true, Bool.not_eq_true', decide_eq_true_eq, decide_eq_false_iff_not, List.all_eq_true] at h
  obtain ⟨⟨⟨⟨h1, h2⟩, h3⟩, h5⟩, h4⟩ := h
  refine ⟨h1, h2, h3, fun y hy => (h4 y hy).1.1, fun y hy e => ?_, h5, fun y hy e => ?_⟩
  · rcases (h4 y hy).1.2 with z | z
    · exact absurd e z
    · exact z
  · rcases (h4 y hy).2 with (z | z) | z
    · exact absurd e z
    · exact .inl z
    · exact .inr z
theorem LamS1.has {X : Cx} {scope : Scope} {t : Str} (L : LamS1 X.env.scope scope t) (ok : X.Ok) : ∀ y ∈ scope.names, y.2 = .free → ∃ c, X.env.cells.lookup y.1 = some c := fun y hy e => by
  rcases L.free y hy e with k | k
  · exact ok.has _ (.inl k)
  · exact ok.has _ (.inr k)
/-- the context of the lambda's body: the maker's names, then t -/
def lam1Cx (X : Cx) (A : Around) (outer : List Env) (s : Shared) (H : Hp) (scope : Scope) (t : Str) (f c' : Addr) : Cx :=
  { LamX.lamCx X A outer s H C8.E0 scope f c' with N := X.N ++ [t] }
section
variable {X : Cx} {pins : List (Addr × Obj)} {σ : L2.St} {H HZ : Hp} {s s1 : Shared}
theorem lam1_start {A : Around} {outer : List Env} {scope : Scope} {t : Str} {f c' : Addr} {h₁ : Heap} {tk : Nat} {x : V} {u : Value} (I : Inv X pins σ H s) (L : LamS1 X.env.scope scope t) (nt : t ∉ X.N) (e0 : Env0 X.prog X.w X.K X.mg X.base A outer s1 HZ) (hd : A.handled = none)
    (un : Un (frs X.stack) [] H HZ s.heap s1.heap) (rx : L2.RelV x u) (hns : h₁.Ns s1.heap.objs.size fun y => ([(t, u)] : List (Str × Value)).reverse.lookup y) (kp : ∀ b o, s1.heap.get? b = some o → h₁.get? b = some o) :
    Inv (lam1Cx X A outer s1 HZ scope t f c') [] (σ ++ [some x]) HZ { s1 with heap := h₁, toks := tk } := by
  have hfree := L.has I.ok
  have cm : ∀ {y c}, (cloFrom X.env.cells scope.names []).lookup y = some c → X.env.cells.lookup y = some c := fun {y c} e => by
    rcases cloFrom_mem (PySem.mem_of_lookup e) with hm | ⟨h1, h2⟩
    · cases hm
    · obtain ⟨c1, hc⟩ := hfree _ h1 rfl
      have hc : X.env.cells.lookup y = some c1 := hc
      have e2 : c = c1 := by
        rw [h2, hc] <;> rfl
      rw [e2]
      exact hc
  have look : ∀ {y}, scope.names.lookup y = some .free → ∃ c, (cloFrom X.env.cells scope.names []).lookup y = some c := fun {y} hl => by
    have hy : (y, NameKind.free) ∈ scope.names := PySem.mem_of_lookup hl
    exact mem_lookup (cloFrom_has (cells := X.env.cells) (acc := []) hy)
  have cellK : ∀ {c : Addr} {v : Option Value}, H c = none → s.heap.IsCell c v → h₁.IsCell c v := fun {c v} n ⟨o, ho, hd⟩ => by
    obtain ⟨sl, q⟩ := un.any ho n (by simp)
    exact ⟨_, kp _ _ q, hd⟩
  have noA : ∀ b : Addr, b ∉ (lam1Cx X A outer s1 HZ scope t f c').ex := fun b z => absurd (show b ∈ ([] : List Addr) from z) (by simp)
  refine ⟨⟨e0.mod, L.kind, rfl, rfl, Nat.le_refl _, fun y z c e1 e2 => I.ok.inj y z c (cm e1) (cm e2), fun y hy => ?_, fun y c z _ => ?_, fun _ => hd, Around.frames_deeper e0.frames, .inr ⟨rfl, rfl⟩, fun b z => absurd z (noA b), e0.bs, e0.bsz, fun b _ _ => noA b,
      fun b z => absurd z (noA b), e0.funs, e0.frf⟩,
    rfl, e0.bare, Un.kept kp, ⟨_, hns, fun i y v e1 e2 e3 => ?_⟩, fun y c e => ?_, e0.hok.fresh (Nat.le_refl _), fun y c e => ?_, fun q hq => absurd (show q ∈ ([] : List (Addr × Obj)) ++ [] from hq) (by simp), e0.hok.kept kp, ?_⟩
  · have hy : scope.names.lookup y = some .cell ∨ scope.names.lookup y = some .free := hy
    rcases hy with hy | hy
    · exact absurd rfl (L.nocell _ (PySem.mem_of_lookup hy))
    · exact look hy
  · have z : false = true := z
    cases z
  · have e3 : Vis scope y := e3
    have e1 : (X.N ++ [t])[i]? = some y := e1
    have hlen : σ.length = X.N.length := I.len
    by_cases hi : i < X.N.length
    · rw [List.getElem?_append_left hi] at e1
      rw [List.getElem?_append_left (by rw [hlen]; exact hi)] at e2
      have hyN : y ∈ X.N := List.mem_iff_getElem?.mpr ⟨i, e1⟩
      rcases e3 with k | k | k
      · exact absurd hyN (by rw [show y = t from L.own _ (PySem.mem_of_lookup k) rfl]; exact nt)
      · exact absurd rfl (L.nocell _ (PySem.mem_of_lookup k))
      · obtain ⟨m, hn, hl⟩ := I.loc
        have hvis : Vis X.env.scope y := (L.free _ (PySem.mem_of_lookup k) rfl).elim (fun k => .inr (.inl k)) (fun k => .inr (.inr k))
        obtain ⟨w', r, q⟩ := hl i y v e1 e2 hvis
        obtain ⟨c2, h2⟩ := look k
        refine ⟨w', r, .inr ⟨.inr k, c2, h2, ?_⟩⟩
        have c1 := cm h2
        rcases q with ⟨k', _⟩ | ⟨_, c3, e', z⟩
        · have k' : X.env.scope.names.lookup y = some .local := k'
          rcases L.free _ (PySem.mem_of_lookup k) rfl with k2 | k2 <;> rw [show X.env.scope.names.lookup y = _ from k2] at k' <;> cases k'
        · rw [c1] at e'
          cases e'
          exact cellK (I.freeC y _ c1) z
    · have hi2 : i = X.N.length := by
        have := (List.getElem?_eq_some_iff.mp e1).1
        rw [List.length_append] at this
        have h1 : ([t] : List Str).length = 1 := rfl
        omega
      subst hi2
      rw [List.getElem?_append_right (Nat.le_refl _), Nat.sub_self] at e1
      rw [← hlen, List.getElem?_append_right (Nat.le_refl _), Nat.sub_self] at e2
      have ey : t = y := by simpa using e1
      have ev : x = v := by simpa using e2
      subst ey
      subst ev
      refine ⟨u, rx, .inl ⟨L.tl, ?_⟩⟩
      simp
  · obtain ⟨w', z⟩ := I.cell y c (cm e)
    exact ⟨w', cellK (I.freeC y c (cm e)) z⟩
  · obtain ⟨v, o, ho, hd⟩ := I.cell y c (cm e)
    exact un.free c o ho (I.freeC y c (cm e)) (by simp)
  · show (σ ++ [some x]).length = (X.N ++ [t]).length
    rw [List.length_append, List.length_append, I.len]
    rfl
/-- a(e), in the def that got the lambda -/
theorem pe_act1 {qg : Str} {Ng : List Str} {sg : Scope} {g f c' : Addr} {cdg pm ctv : Value} {params : Arguments} {body : Expr} {scope : Scope} {t : Str} {k i : Nat} {a : Str} {Eg : XK} {tb : TE} {te : TE} {e : Expr} {p1 p2 : Pos}
    (I : Inv X pins σ H s) (L : LamS1 X.env.scope scope t) (nt : t ∉ X.N) (hf : s.heap.get? f = some (PySem.W.kla_obj "<lambda>" (X.env.qual ++ "<lambda>") params body scope (cloFrom X.env.cells scope.names []) pm c' ctv)) (hfn : H f = none) (hfr : f ∉ frs X.stack)
    (hbind : ∀ u : Value, bindArgs (PySem.W.kla_fn "<lambda>" (X.env.qual ++ "<lambda>") params body scope (cloFrom X.env.cells scope.names []) pm (.ref c') ctv) ⟨[u], []⟩ = pure [(t, u)])
    (hr : Room (k + 1) (X.A.deeper (PyProof.Rows.envOfC qg sg s.heap.objs.size g cdg)))
    (hbody : ∀ (A : Around) (outer : List Env) (s : Shared) (H : Hp), Room k (A.deeper (LamX.lamEnv X scope s.heap.objs.size f c')) → PE (lam1Cx X A outer s H scope t f c') body tb)
    (he : PE (cxOf L2.CX0 X.prog X.w X.K X.mg X.base Ng qg sg g cdg X.A X.stack s H Eg).nox e te)
    (hN : Ng[i]? = some a) (hv : Vis sg a) (hd : (a == ("__debug__" : Str)) = false := by decide) (hcd : (a == ("__classdict__" : Str)) = false := by decide)
    (hst : starEach [e] (PyProof.Rows.envOfC qg sg s.heap.objs.size g cdg) = [(false, eval e (PyProof.Rows.envOfC qg sg s.heap.objs.size g cdg))] := by rfl) :
    PE (cxOf L2.CX0 X.prog X.w X.K X.mg X.base Ng qg sg g cdg X.A X.stack s H Eg).nox (.Call (.Name a p1) [e] [] p2)
      (fun σZ HZ Q => σZ[i]? = some (some (.ref f)) ∧ te σZ HZ fun x H1 => H1 c' = some (LamX.CodeO c' (X.env.qual ++ "<lambda>")) ∧ tb (σ ++ [some x]) H1 Q) := by
  refine ⟨fun pinsZ sZ σZ HZ Q IZ h => ?_⟩
  obtain ⟨hs, ht⟩ := h
  refine wpAny_Call_Name_kw (thn ((pe_var (pos := p1) (i := i) hN hv hd hcd).run pinsZ sZ σZ HZ (fun v H1 => v = .ref f ∧ H1 = HZ) IZ ⟨.ref f, hs, rfl, rfl⟩) fun u s1 ⟨v, H1, I1, r1, q1⟩ => ?_)
  obtain ⟨ev, eH⟩ := q1
  subst ev
  rw [eH] at I1
  obtain rfl : u = Value.ref f := r1
  have of1 : ∀ {s1 : Shared} {σZ : L2.St} {HZ : Hp}, Inv (cxOf L2.CX0 X.prog X.w X.K X.mg X.base Ng qg sg g cdg X.A X.stack s H Eg).nox pinsZ σZ HZ s1 → s1.heap.get? f = some (PySem.W.kla_obj "<lambda>" (X.env.qual ++ "<lambda>") params body scope (cloFrom X.env.cells scope.names []) pm c' ctv) :=
    fun I1 => I1.base.keep f _ hf hfn hfr (fun z => nomatch (show f ∈ ([] : List Addr) from z))
  refine PySem.W.callWith_F ⟨_, _, _, _, of1 I1⟩ ?_ hst (by rfl)
  have ebt : backTo p2 (starEach [e] (PyProof.Rows.envOfC qg sg s.heap.objs.size g cdg)) = [(false, eval e (PyProof.Rows.envOfC qg sg s.heap.objs.size g cdg))] := by
    rw [hst]; simp [backTo]
  show wpAny _ _ (spliced (backTo p2 (starEach [e] (PyProof.Rows.envOfC qg sg s.heap.objs.size g cdg)))) _ _ s1
  rw [ebt]
  refine Calls.spliced_cons (thn (he.run pinsZ s1 σZ HZ _ I1 ht) fun u s2 ⟨x, H2, I2, rx, hc, q2⟩ => Calls.spliced_nil ?_)
  have of2 := of1 I2
  have un : Un (frs X.stack) [] H H2 s.heap s2.heap := I2.base
  obtain ⟨⟨oc, vs, tq, hoc, hdc, hvc⟩, _, _⟩ := I2.hok c' _ hc
  have rc : codeAny (model X.prog X.w) (X.A.deeper (PyProof.Rows.envOfC qg sg s.heap.objs.size g cdg)) (.call (.ref f) ⟨[u], []⟩) (CR (L2.CX X.prog X.w) (PyProof.Rows.envOfC qg sg s.heap.objs.size g cdg :: X.stack) X.prog X.w H2 s2 Q C8.E0) s2 := by
    refine PySem.W.kla_callFunE hr.depth of2 rfl L.co L.gen rfl ⟨c', oc, vs, tq, rfl, hoc, hdc, hvc⟩ ?_
    rw [hbind]
    refine wpAny_pure (wpAny_newFunctionEnv L.nocell (fun y hy => ?_) (fun h₁ hns hsb => ⟨I2.nolimit.fresh _ hsb, ?_⟩) L.kind)
    · obtain rfl : y = (t, u) := by simpa using hy
      exact L.tl
    · show codeAny _ _ (.expr body (LamX.lamEnv X scope s2.heap.objs.size f c')) _ _
      have kp : ∀ b o, s2.heap.get? b = some o → h₁.get? b = some o := fun b o e => hsb.extBut b o (Nat.ne_of_lt (Heap.lt_size e)) (Heap.get?_push_of_some _ e)
      have J : Inv (lam1Cx X (X.A.deeper (PyProof.Rows.envOfC qg sg s.heap.objs.size g cdg)) (PyProof.Rows.envOfC qg sg s.heap.objs.size g cdg :: X.stack) s2 H2 scope t f c') [] (σ ++ [some x]) H2 { s2 with heap := h₁, toks := s2.toks + ([(t, u)] : List (Str × Value)).length } :=
        lam1_start I L nt I2.env0 hr.hd un rx hns kp
      refine PySem.W.kla_codeExpr (wpAny_mono ((hbody _ _ s2 H2 (hr.deeper _)).run [] _ _ H2 Q J q2) (fun v s' hq => ?_) fun e s' hq => hq)
      obtain ⟨w', H', J', rv, q⟩ := hq
      exact ⟨w', H', J'.os, J'.bare, J'.base, J'.hok, rv, q⟩
  refine ⟨⟨_, _, _, _, of2⟩, wpAny_call (codeAny_mono rc fun r s' hq => ?_)⟩
  cases r with
  | error e =>
    obtain ⟨_, _, _, _, _, _, _, _, _, _, _, _, z⟩ := (show L2.CX X.prog X.w _ H2 s2 C8.E0 e s' from hq)
    exact (show False from z).elim
  | ok fl =>
    cases fl with
    | ret u => exact I2.after hq
    | next => exact False.elim hq
    | brk => exact False.elim hq
    | cont => exact False.elim hq
end
/-- the def that calls what it got as its third argument; TT: what it makes of the lambda's reading -/
def Gives1 (X : Cx) (Ng : List Str) (x : Str) (sg : Scope) (g : Addr) (cdg : Value) (bg : List Stmt) (a : Str) (q : Str) (TT : V → V → (V → Hp → VK → Prop) → Hp → VK → Prop) : Prop :=
  ∀ (f c' : Addr) (s : Shared) (H : Hp) (Q : VK) (Eg : XK) (tl : V → Hp → VK → Prop) (x1 x2 : V),
    (∀ (e : Expr) (te : TE) (p1 p2 : Pos), PE (cxOf L2.CX0 X.prog X.w X.K X.mg X.base Ng x sg g cdg X.A X.stack s H Eg).nox e te → starEach [e] (PyProof.Rows.envOfC x sg s.heap.objs.size g cdg) = [(false, eval e (PyProof.Rows.envOfC x sg s.heap.objs.size g cdg))] →
      PE (cxOf L2.CX0 X.prog X.w X.K X.mg X.base Ng x sg g cdg X.A X.stack s H Eg).nox (.Call (.Name a p1) [e] [] p2) (fun σZ HZ Q => σZ[2]? = some (some (.ref f)) ∧ te σZ HZ fun x H1 => H1 c' = some (LamX.CodeO c' q) ∧ tl x H1 Q)) →
    H c' = some (LamX.CodeO c' q) → TT x1 x2 tl H Q →
    ∃ t, PSs (cxOf L2.CX0 X.prog X.w X.K X.mg X.base Ng x sg g cdg X.A X.stack s H Eg).nox bg t ∧ t { nx := fun _ H' => Q .non H', rt := Q } (L2.start Ng [x1, x2, .ref f]) H
def tLam1 [Tn] (TT : V → V → (V → Hp → VK → Prop) → Hp → VK → Prop) (t1 t2 t : TE) : TE := fun σ H Q => t1 σ H fun x1 H1 => t2 σ H1 fun x2 H2 => TbsOk H2 ∧ ∀ H3, Same H2 H3 → TT x1 x2 (fun x H' Q' => t (σ ++ [some x]) H' Q') H3 Q
section
variable {X : Cx} [Tn]
/-- x(e1, e2, lambda t: body) -/
theorem pe_lamcall1 {TT : V → V → (V → Hp → VK → Prop) → Hp → VK → Prop} {x a tp : Str} {g c P : Addr} {k : Nat} {st : Stmt} {fd : FuncData} {Ng ps : List Str}
    {e1 e2 : Expr} {t1 t2 : TE} {params : Arguments} {body : Expr} {scope : Scope} {t : TE} {p lpos pos : Pos} (hg : Gl X x) (hm : X.mg x = some (.ref g)) (F : L2.Fun X.K x x st g fd)
    (hb : L2.Binds X.K fd ps []) (hps : ps.length = 3) (Sg : FnScope Ng ps (defScope st)) (hNg : Ng[2]? = some a) (hva : Vis (defScope st) a)
    (hG : ∀ cdv, Gives1 X Ng x (defScope st) g cdv (defBody st) a (X.env.qual ++ "<lambda>") TT)
    (TB : LamX.TabB X.base X.mg c P) (hcode : X.env.code = .ref c) (hmT : (P, X.env.qual ++ "<lambda>") ∈ Tn.t) (hu : ∀ p ∈ Tn.t, p.1 = P → p.2 = X.env.qual ++ "<lambda>") (hr : Room (k + 2) X.A) (L : LamS1 X.env.scope scope tp) (nt : tp ∉ X.N) (hdef : defaultsOf params X.env = ([], []))
    (hbind : ∀ (q : Str) (cl : List (Str × Addr)) (pm cv ctv u : Value), bindArgs (PySem.W.kla_fn "<lambda>" q params body scope cl pm cv ctv) ⟨[u], []⟩ = pure [(tp, u)])
    (h1 : PE X e1 t1) (h2 : PE X e2 t2)
    (hbody : ∀ (A : Around) (outer : List Env) (s : Shared) (H : Hp) (f c' : Addr), Room k (A.deeper (LamX.lamEnv X scope s.heap.objs.size f c')) → PE (lam1Cx X A outer s H scope tp f c') body t)
    (hdb : (x == ("__debug__" : Str)) = false := by decide) (hd : (a == ("__debug__" : Str)) = false := by decide) (hcd : (a == ("__classdict__" : Str)) = false := by decide)
    (he1 : starEach [e1, e2, .Lambda params body scope lpos] X.env = (false, eval e1 X.env) :: starEach [e2, .Lambda params body scope lpos] X.env := by rfl)
    (he2 : starEach [e2, .Lambda params body scope lpos] X.env = [(false, eval e2 X.env), (false, eval (.Lambda params body scope lpos) X.env)] := by rfl) :
    PE X (.Call (.Name x p) [e1, e2, .Lambda params body scope lpos] [] pos) (tLam1 TT t1 t2 t) := by
  have hk := F.kp
  obtain ⟨oc, od, kV, doc, pm, an, cdv, ct, osl, rfl, lk, hcg⟩ := F.ex
  refine ⟨fun pins s σ H Q I h => ?_⟩
  refine wpAny_Call_Name_kw (ld_glob I hg hm ?_ hdb)
  have eb : backTo pos (starEach [e2, .Lambda params body scope lpos] X.env) = [(false, eval e2 X.env), (false, eval (.Lambda params body scope lpos) X.env)] := by
    rw [he2]; simp [backTo]
  refine PySem.W.callWith_K (h₀ := X.base) I.ok.mod.kin hk ?_ he1 (by rw [eb]; rfl)
  have ebt : backTo pos (starEach [e1, e2, .Lambda params body scope lpos] X.env) = [(false, eval e1 X.env), (false, eval e2 X.env), (false, eval (.Lambda params body scope lpos) X.env)] := by
    rw [he1, he2]; simp [backTo]
  rw [ebt]
  refine Calls.spliced_cons (thn (h1.run pins s σ H _ I h) fun u1 s1 ⟨x1, H1, I1, r1, q1⟩ => ?_)
  refine Calls.spliced_cons (thn (h2.run pins s1 σ H1 _ I1 q1) fun u2 s2 ⟨x2, H2, I2, r2, hT, q2⟩ => ?_)
  refine Calls.spliced_cons (lam_make I2 TB hcode hmT hu hT hdef (L.has I.ok) fun f c' pm' ctv H3 s3 I3 sm hf hfn hfr hco => ?_)
  refine Calls.spliced_nil ⟨I3.kIn, ?_⟩
  have rc : codeAny (model X.prog X.w) X.A (.call (.ref g) ⟨[u1, u2, .ref f], []⟩) (CR L2.CX0 X.stack X.prog X.w H3 s3 Q C8.E0) s3 := by
    refine LamX.run_ofS (N := Ng) (ps := ps) (us := [u1, u2, .ref f]) (vs := [x1, x2, .ref f]) lk hcg Sg hr I3.env0 (hb s3 [u1, u2, .ref f] I3.kIn (by rw [hps]; rfl)) (.cons r1 (.cons r2 (.cons rfl .nil))) (by rw [hps]; rfl) fun hr' => ?_
    obtain ⟨t', ht', hq'⟩ := hG cdv f c' s3 H3 Q C8.E0 (fun x H' Q' => t (σ ++ [some x]) H' Q') x1 x2 (fun e te p1 p2 he hst => pe_act1 (i := 2) I3 L nt hf hfn hfr (fun u => hbind _ _ _ _ _ u) hr' (fun A outer s H hr2 => hbody A outer s H f c' hr2) he hNg hva hd hcd hst) hco (q2 H3 sm)
    exact ⟨t', ht'.nox, hq'⟩
  refine wpAny_call (codeAny_mono rc fun r s4 hq => ?_)
  cases r with
  | error e => exact (show False from hq).elim
  | ok fl =>
    cases fl with
    | ret u => exact I3.after hq
    | next => exact False.elim hq
    | brk => exact False.elim hq
    | cont => exact False.elim hq
end
/-- the table that a code object tells of -/
def spLawT [Tn] (sp : Sp) : Sp := fun vs H Q E => TbsOk H ∧ sp vs H Q E
theorem ne_of_beqF {a b : Addr} (h : (a == b) = false) : a ≠ b := by
  intro e
  rw [e, beq_self_eq_true] at h
  cases h

end My
namespace PySem
namespace MyX
open PySem.W PySem.Calls PyProof.Rows PySem.HandSPX Builtin Builtin.ObjectAttr
/-! ### errors over Exception: made, and their first field -/
abbrev exM : List Value := [.type "Exception", .type "BaseException", .type "object"]
theorem exT (x : Addr) : excTail exM [.ref x, .type "Exception", .type "BaseException", .type "object"] = true := (by decide +kernel : excTail exM exM = true)
theorem one_sz (v : Value) : [v].length ≤ sizeLine := by
  rw [sizeLine_eq]
  exact (by decide : 1 ≤ 16777216)
/-- what the written part says of a class over Exception whose __init__ is its own -/
structure XCls (K : Frag) (C fI : Addr) (f : Str) : Prop where
  cls : ∃ nm q N bs bm sn sub ab col dd k0 k1 k2 k3 k5, K.lookup C = some (excClassObj nm q C N bs bm true sn sub ab col dd k0 k1 k2 k3 k5 "Exception.__new__") ∧ excTail exM bm = true
  sa : findIn K (.ref C) "__setattr__" = some (some (.builtin "object.__setattr__"))
  ga : findIn K (.ref C) "__getattribute__" = some (some (.builtin "BaseException.__getattribute__"))
  gg : findIn K (.ref C) "__getattr__" = some none
  noN : findIn K (.ref C) f = some none
  iC : findIn K (.ref C) "__init__" = some (some (.ref fI))
  tC : typeIn K (.ref fI) = some (.type "function")
  kC : keepIn K (.ref C) = true
  exC : subIn K (.ref C) (.type "BaseException") = some true
  tyC : typeIn K (.ref C) = some (.type "type")
  hdC : hasDictIn K C = true
theorem XCls.over {K : Frag} {C fI : Addr} {f : Str} (T : XCls K C fI f) : excOver K C exM = true := by
  obtain ⟨nm, q, N, bs, bm, sn, sub, ab, col, dd, k0, k1, k2, k3, k5, hC, hbm⟩ := T.cls
  have e : clsIn K C = some { name := nm, bases := bs, mro := .ref C :: bm, ns := N, qualname := q, hasDict := true, slotNames := sn, subclasses := sub, abstract := ab, collection := col, hasDel := false } := by unfold clsIn; rw [hC] <;> rfl
  unfold excOver
  rw [e]
  show (C == C && excTail exM bm) = true
  rw [hbm, beq_self_eq_true]; rfl
section
variable {prog : Program} {w : World} {A : Around} {R : Result → Shared → Prop} {s : Shared} {K : Frag}
theorem first_field {x C fI t : Addr} {f : Str} {tk : Tok} {v : Value} (T : XCls K C fI f) (X : K.In s.heap) (hx : s.heap.get? x = some (excO C t))
    (hq : ∀ h' tk' dx, (∀ b o, b ≠ x → s.heap.get? b = some o → h'.get? b = some o) → s.heap.objs.size ≤ dx → dx ≠ x → h'.get? x = some { cls := .ref C, dict := some dx, data := .fields #[.ref t, .none, .none, .none, .bool false, .none] } →
      h'.Ns1 dx (fun y => if y = f then some v else none) → R (.ok (.ret .none)) { s with heap := h', toks := tk' }) :
    codeAny (model prog w) A (.call (.builtin "object.__setattr__") ⟨[.ref x, .str f tk, v], []⟩) R s := by
  obtain ⟨hp, g, d, tok, os⟩ := s
  refine osa_openX (od := none) PySem.F.store_Exception X ⟨hx, rfl, rfl, trivial⟩ T.over (by unfold takerIn; rw [T.noN]; rfl) fun b => ?_
  obtain ⟨cd, hc, hd'⟩ := any_some T.hdC
  have lt : x < hp.objs.size := Heap.lt_size hx
  have ne : hp.objs.size ≠ x := Nat.ne_of_gt lt
  refine wpAny_bind (wpAny_pure (wpAny_bind (instanceDict_exc (t := t) (c2 := .none) hx (looks_clsIn X hc) hd' ?_)))
  show wpAny _ _ (storeInDict hp.objs.size (.str f tk) f v) _ _ _
  refine store_in_new ?_ fun h' tk' hn hs => ?_
  · exact ⟨_, #[], _, (Heap.get?_update_ne _ _ _ _ ne).trans (Heap.get?_push_at rfl rfl), rfl, fun e he => absurd he (by simp), fun _ => rfl⟩
  · have hx1 : (hp.push (dictOf [] 0)).get? x = some (excObj C t none .none) := Heap.get?_push_of_some _ hx
    refine hq h' tk' hp.objs.size (fun b o hb ho => ?_) (Nat.le_refl _) ne ?_ hn
    · exact (hs.2 b (Nat.ne_of_lt (Heap.lt_size ho))).trans ((Heap.get?_update_ne _ _ _ _ hb).trans (Heap.get?_push_of_some _ ho))
    · exact (hs.2 x ne.symm).trans (Heap.get?_update_self _ hx1 rfl)
end
end MyX
end PySem
namespace My
open PySem L2
variable [Tn]
section
variable {X : Cx} {C : Addr} {B newId initId : String} {bmB : List Value}
/-- X() of a class without an own __init__ -/
theorem pmk_bare {x : Str} {p pos : Pos} (F : ExcBaseFacts B newId initId bmB) (q : PySem.W.excIn X.K C bmB newId = true) (gC : X.mg x = some (.ref C)) (kC : PySem.W.keepIn X.K (.ref C) = true) (r : Raises X (.ref C)) (hg : Gl X x)
    (hdb : (x == ("__debug__" : Str)) = false := by decide) : PMk X (.Call (.Name x p) [] [] pos) (fun _ H Q => Q (.ref C) none H) := by
  intro pins s σ H Q I h
  refine wpAny_Call_Name_kw (ld_glob I hg gC ?_ hdb)
  refine PySem.W.callWith_K0 I.kIn kC ?_
  obtain ⟨bm, N, nm, qn, bs, hdct, sn, sub, ab, col, dd, k0, k1, k2, k3, k5, mN, hC, hN, hni, T⟩ := exc_obj I.kIn q
  exact wpAny_call_exc_subT F T hC hN hni (fun h' e hm => mk_of I hm r h (I.hok.gone hm.new)) (Nat.zero_le _)
end
theorem pcX {X : Cx} {E : XK} (tk : Takes X fun cls d _ H => E cls d H) : Passes (L2.CX X.prog X.w) X E := passes_call tk fun _ _ _ _ h => h
/-- what the clauses of a try ask, whatever the slots hold -/
def WT (n : Nat) (W : WX) : XK := fun cls d H => ∀ σ : St, σ.length = n → W cls d σ H
theorem passesT {X : Cx} {W : WX} {n : Nat} (tk : Takes X W) (hn : X.N.length = n := by rfl) : Passes (L2.CX X.prog X.w) X (WT n W) := fun _ σ _ _ e s' I c => tk e s' (XE.of_call I (fun _ _ _ h => h σ (I.len.trans hn)) c)
theorem exm_by {K : PySem.W.Frag} {S R : Addr} {b : Bool} (h1 : PySem.W.subIn K (.ref R) (.type "BaseException") = some true) (h2 : PySem.W.isClsIn K R = true) (h3 : PySem.W.typeIn K (.ref R) = some (.type "type")) (h4 : PySem.W.subIn K (.ref S) (.ref R) = some b) :
    PySem.W.exmOne K (.ref S) (.ref R) = some b := by
  have e1 : (PySem.W.subIn K (.ref R) (.type "BaseException") == some true) = true := by rw [h1] <;> rfl
  have e2 : ((PySem.W.clsIn K R).isSome && PySem.W.typeIn K (.ref R) == some (.type "type")) = true := by
    have h2' : (PySem.W.clsIn K R).isSome = true := h2
    rw [h2', h3] <;> rfl
  show (if (PySem.W.subIn K (.ref R) (.type "BaseException") == some true) = true then (if ((PySem.W.clsIn K R).isSome && PySem.W.typeIn K (.ref R) == some (.type "type")) = true then PySem.W.subIn K (.ref S) (.ref R) else none) else none) = some b
  rw [if_pos e1, if_pos e2]
  exact h4
theorem exm_self {K : PySem.W.Frag} {S : Addr} (h1 : PySem.W.subIn K (.ref S) (.type "BaseException") = some true) (h2 : PySem.W.isClsIn K S = true) (h3 : PySem.W.typeIn K (.ref S) = some (.type "type")) (h4 : PySem.W.subIn K (.ref S) (.ref S) = some true) :
    PySem.W.exmOne K (.ref S) (.ref S) = some true := exm_by h1 h2 h3 h4
theorem _root_.PySem.MyX.XCls.xf {K : PySem.W.Frag} {C fI : Addr} {f : Str} (T : PySem.MyX.XCls K C fI f) : XfC K C := ⟨T.ga, T.gg, T.exC, T.hdC⟩
/-- raised: an error of the class at C with one field -/
def Exc1 (E : XK) (C : Addr) (f : Str) (v : V) (H : Hp) : Prop := ∀ d H', Same H H' → H' d = some (.xd [(f, v)]) → E (.ref C) (some d) H'
theorem Exc1.after {E : XK} {C : Addr} {f : Str} {v : V} {H H1 : Hp} (h : Exc1 E C f v H) (s : Same H H1) : Exc1 E C f v H1 := fun d H' s' e => h d H' (s.trans s') e
theorem r_raise {t : St → Hp → XK → Prop} {W : WX} {σ : St} {H : Hp} {D : Ends} (h : t σ H fun cls d H' => W cls d σ H') : (fun (_ : Ends) σ H => t σ H fun cls d H' => W cls d σ H') D σ H := h

/-- where the top has written what -/
structure Adr where
  a_is_integer : Addr
  d_is_integer : FuncData
  a_is_between : Addr
  d_is_between : FuncData
  a_check_count : Addr
  d_check_count : FuncData
  a_check_time : Addr
  d_check_time : FuncData
  a_least_where : Addr
  d_least_where : FuncData
  a_Machine_init : Addr
  d_Machine_init : FuncData
  a_slow_tree : Addr
  d_slow_tree : FuncData
  a_greatest_sum : Addr
  d_greatest_sum : FuncData
  a_most_summed : Addr
  d_most_summed : FuncData
  a_least_sum_time : Addr
  d_least_sum_time : FuncData
  a_least_summers : Addr
  d_least_summers : FuncData
  a__law_source : Addr
  d__law_source : FuncData
  a__law_draw : Addr
  d__law_draw : FuncData
  a__law_big : Addr
  d__law_big : FuncData
  a__law_numbers : Addr
  d__law_numbers : FuncData
  a__law_small : Addr
  d__law_small : FuncData
  a__law_is : Addr
  d__law_is : FuncData
  a__law_known : Addr
  d__law_known : FuncData
  a__law_most : Addr
  d__law_most : FuncData
  a__law_fewest : Addr
  d__law_fewest : FuncData
  a__law_time_right : Addr
  d__law_time_right : FuncData
  a__law_hands_right : Addr
  d__law_hands_right : FuncData
  a__law_grows : Addr
  d__law_grows : FuncData
  a_law : Addr
  d_law : FuncData
  c_Machine : Addr
  k_least_sum_time : Addr
  tb_least_sum_time : Addr
/-- what the walk asks of the top -/
structure Txt (K : PySem.W.Frag) (mg : Str → Option Value) (base : Heap) (a : Adr) : Prop where
  B_least_sum_time : LamX.TabB base mg a.k_least_sum_time a.tb_least_sum_time
  tn_least_sum_time : (a.tb_least_sum_time, (("least_sum_time" ++ ".<locals>." : Str) ++ "<lambda>")) ∈ Tn.t
  tu_least_sum_time : ∀ p ∈ Tn.t, p.1 = a.tb_least_sum_time → p.2 = (("least_sum_time" ++ ".<locals>." : Str) ++ "<lambda>")
  F_is_integer : Fun K "is_integer" "is_integer" s_is_integer a.a_is_integer a.d_is_integer
  b_is_integer : Binds K a.d_is_integer ["thing"] []
  g_is_integer : mg "is_integer" = some (.ref a.a_is_integer)
  F_is_between : Fun K "is_between" "is_between" s_is_between a.a_is_between a.d_is_between
  b_is_between : Binds K a.d_is_between ["thing", "low", "high"] []
  g_is_between : mg "is_between" = some (.ref a.a_is_between)
  F_check_count : Fun K "check_count" "check_count" s_check_count a.a_check_count a.d_check_count
  b_check_count : Binds K a.d_check_count ["count", "low", "high"] []
  g_check_count : mg "check_count" = some (.ref a.a_check_count)
  F_check_time : Fun K "check_time" "check_time" s_check_time a.a_check_time a.d_check_time
  b_check_time : Binds K a.d_check_time ["time", "latest"] []
  g_check_time : mg "check_time" = some (.ref a.a_check_time)
  F_least_where : Fun K "least_where" "least_where" s_least_where a.a_least_where a.d_least_where
  b_least_where : Binds K a.d_least_where ["low", "high", "holds"] []
  g_least_where : mg "least_where" = some (.ref a.a_least_where)
  F_Machine_init : Fun K "__init__" "Machine.__init__" s_Machine_init a.a_Machine_init a.d_Machine_init
  b_Machine_init : Binds K a.d_Machine_init ["self", "o", "l", "g"] []
  mk_Machine : Mk K a.c_Machine a.a_Machine_init
  F_slow_tree : Fun K "slow_tree" "slow_tree" s_slow_tree a.a_slow_tree a.d_slow_tree
  b_slow_tree : Binds K a.d_slow_tree ["machine", "n"] []
  g_slow_tree : mg "slow_tree" = some (.ref a.a_slow_tree)
  F_greatest_sum : Fun K "greatest_sum" "greatest_sum" s_greatest_sum a.a_greatest_sum a.d_greatest_sum
  b_greatest_sum : Binds K a.d_greatest_sum ["machine", "n", "time"] []
  g_greatest_sum : mg "greatest_sum" = some (.ref a.a_greatest_sum)
  F_most_summed : Fun K "most_summed" "most_summed" s_most_summed a.a_most_summed a.d_most_summed
  b_most_summed : Binds K a.d_most_summed ["machine", "n", "time"] []
  g_most_summed : mg "most_summed" = some (.ref a.a_most_summed)
  F_least_sum_time : FunC K "least_sum_time" "least_sum_time" s_least_sum_time a.a_least_sum_time a.d_least_sum_time a.k_least_sum_time
  b_least_sum_time : Binds K a.d_least_sum_time ["machine", "n", "count"] []
  g_least_sum_time : mg "least_sum_time" = some (.ref a.a_least_sum_time)
  F_least_summers : Fun K "least_summers" "least_summers" s_least_summers a.a_least_summers a.d_least_summers
  b_least_summers : Binds K a.d_least_summers ["machine", "time", "count"] []
  g_least_summers : mg "least_summers" = some (.ref a.a_least_summers)
  F__law_source : Fun K "_law_source" "_law_source" s__law_source a.a__law_source a.d__law_source
  b__law_source : Binds K a.d__law_source ["_law_script"] []
  g__law_source : mg "_law_source" = some (.ref a.a__law_source)
  F__law_draw : Fun K "_law_draw" "_law_draw" s__law_draw a.a__law_draw a.d__law_draw
  b__law_draw : Binds K a.d__law_draw ["_law_source_here", "_law_limit"] []
  g__law_draw : mg "_law_draw" = some (.ref a.a__law_draw)
  F__law_big : Fun K "_law_big" "_law_big" s__law_big a.a__law_big a.d__law_big
  b__law_big : Binds K a.d__law_big ["_law_source_here", "_law_limit"] []
  g__law_big : mg "_law_big" = some (.ref a.a__law_big)
  F__law_numbers : Fun K "_law_numbers" "_law_numbers" s__law_numbers a.a__law_numbers a.d__law_numbers
  b__law_numbers : Binds K a.d__law_numbers ["_law_source_here"] []
  g__law_numbers : mg "_law_numbers" = some (.ref a.a__law_numbers)
  F__law_small : Fun K "_law_small" "_law_small" s__law_small a.a__law_small a.d__law_small
  b__law_small : Binds K a.d__law_small ["_law_source_here"] []
  g__law_small : mg "_law_small" = some (.ref a.a__law_small)
  F__law_is : Fun K "_law_is" "_law_is" s__law_is a.a__law_is a.d__law_is
  b__law_is : Binds K a.d__law_is ["_law_thing", "_law_due"] []
  g__law_is : mg "_law_is" = some (.ref a.a__law_is)
  F__law_known : Fun K "_law_known" "_law_known" s__law_known a.a__law_known a.d__law_known
  b__law_known : Binds K a.d__law_known ["_law_numbers_here", "_law_n"] []
  g__law_known : mg "_law_known" = some (.ref a.a__law_known)
  F__law_most : Fun K "_law_most" "_law_most" s__law_most a.a__law_most a.d__law_most
  b__law_most : Binds K a.d__law_most ["_law_numbers_here", "_law_n", "_law_time"] []
  g__law_most : mg "_law_most" = some (.ref a.a__law_most)
  F__law_fewest : Fun K "_law_fewest" "_law_fewest" s__law_fewest a.a__law_fewest a.d__law_fewest
  b__law_fewest : Binds K a.d__law_fewest ["_law_numbers_here", "_law_time", "_law_count"] []
  g__law_fewest : mg "_law_fewest" = some (.ref a.a__law_fewest)
  F__law_time_right : Fun K "_law_time_right" "_law_time_right" s__law_time_right a.a__law_time_right a.d__law_time_right
  b__law_time_right : Binds K a.d__law_time_right ["_law_machine", "_law_numbers_here", "_law_n", "_law_count"] []
  g__law_time_right : mg "_law_time_right" = some (.ref a.a__law_time_right)
  F__law_hands_right : Fun K "_law_hands_right" "_law_hands_right" s__law_hands_right a.a__law_hands_right a.d__law_hands_right
  b__law_hands_right : Binds K a.d__law_hands_right ["_law_machine", "_law_numbers_here", "_law_time", "_law_count"] []
  g__law_hands_right : mg "_law_hands_right" = some (.ref a.a__law_hands_right)
  F__law_grows : Fun K "_law_grows" "_law_grows" s__law_grows a.a__law_grows a.d__law_grows
  b__law_grows : Binds K a.d__law_grows ["_law_machine", "_law_numbers_here", "_law_n", "_law_time"] []
  g__law_grows : mg "_law_grows" = some (.ref a.a__law_grows)
  F_law : Fun K "law" "law" s_law a.a_law a.d_law
  b_law : Binds K a.d_law ["_law_script"] []
  g_law : mg "law" = some (.ref a.a_law)
  g_Machine : mg "Machine" = some (.ref a.c_Machine)
  cl_Machine : Cls K a.c_Machine
  nF_Machine_o : NoAttr K a.c_Machine "o"
  nF_Machine_l : NoAttr K a.c_Machine "l"
  nF_Machine_g : NoAttr K a.c_Machine "g"
  nF_Machine_letter : NoAttr K a.c_Machine "letter"
  nF_Machine_gap : NoAttr K a.c_Machine "gap"
  g_heappush : mg "heappush" = some (.builtin "_heapq.heappush")
  g_heappop : mg "heappop" = some (.builtin "_heapq.heappop")
  n_bool : mg "bool" = none
  n_int : mg "int" = none
  n_isinstance : mg "isinstance" = none
  n_len : mg "len" = none
  n_max : mg "max" = none
  n_min : mg "min" = none
  n_range : mg "range" = none
  n_sum : mg "sum" = none
  g_MOST_SHARING : ∃ t, mg "MOST_SHARING" = some (.int 40 t)
  g_GREATEST_PART : ∃ t, mg "GREATEST_PART" = some (.int 1000000000 t)
  g_LATEST_SUM : ∃ t, mg "LATEST_SUM" = some (.int 1000000000000 t)
  g_MOST_ASKED : ∃ t, mg "MOST_ASKED" = some (.int 1000000000000 t)
end My
namespace HQ
open PySem PySem.Spec PyProof.Rows PySem.Calls
theorem kind_push : builtinKind "_heapq.heappush" = none := by decide +kernel
theorem plain_push : plainId "_heapq.heappush" = true := by decide +kernel
theorem entry_push : entryFor table "_heapq.heappush" = some Builtin.«_heapq.heappush» := entryFor_of_fast (by kernel_rfl)
theorem args_push (a b : Value) : argsOk "_heapq.heappush" ⟨[a, b], []⟩ := by unfold argsOk; kernel_rfl
theorem kind_pop : builtinKind "_heapq.heappop" = none := by decide +kernel
theorem plain_pop : plainId "_heapq.heappop" = true := by decide +kernel
theorem entry_pop : entryFor table "_heapq.heappop" = some Builtin.«_heapq.heappop» := entryFor_of_fast (by kernel_rfl)
theorem args_pop (a : Value) : argsOk "_heapq.heappop" ⟨[a], []⟩ := by unfold argsOk; kernel_rfl
theorem plain_sift : plainId "_heapq.heapify.sift" = true := by decide +kernel
theorem entry_sift : entryFor table "_heapq.heapify.sift" = some Builtin.«_heapq.heapify.sift» := entryFor_of_fast (by kernel_rfl)
/-! ### heaps: the order along the tree -/
structure Ordr {κ : Type} (lt : κ → κ → Bool) : Prop where
  asym : ∀ {a b}, lt a b = true → lt b a = false
  tr : ∀ {a b c}, lt b a = false → lt c b = false → lt c a = false
section
variable {κ : Type} {lt : κ → κ → Bool}
def sw (f : Nat → κ) (i j : Nat) : Nat → κ := fun x => if x = i then f j else if x = j then f i else f x
/-- each key is no less than its parent's, but around pos -/
structure Hole (lt : κ → κ → Bool) (f : Nat → κ) (n pos : Nat) : Prop where
  edge : ∀ i, 0 < i → i < n → i ≠ pos → (i - 1) / 2 ≠ pos → lt (f i) (f ((i - 1) / 2)) = false
  over : ∀ i, 0 < i → i < n → (i - 1) / 2 = pos → 0 < pos → lt (f i) (f ((pos - 1) / 2)) = false
structure UpOk (lt : κ → κ → Bool) (f : Nat → κ) (n pos : Nat) : Prop extends Hole lt f n pos where
  kids : ∀ i, 0 < i → i < n → (i - 1) / 2 = pos → lt (f i) (f pos) = false
def Heaped (lt : κ → κ → Bool) (f : Nat → κ) (n : Nat) : Prop := ∀ i, 0 < i → i < n → lt (f i) (f ((i - 1) / 2)) = false
theorem Ordr.irr (O : Ordr lt) (a : κ) : lt a a = false := by
  cases h : lt a a with
  | false => rfl
  | true => have := O.asym h; rw [h] at this; cases this
theorem hole_down {f : Nat → κ} {n pos c : Nat} (O : Ordr lt) (h : Hole lt f n pos) (hc : (c - 1) / 2 = pos) (c0 : 0 < c) (cn : c < n) (hd : ∀ d, 0 < d → d < n → (d - 1) / 2 = pos → lt (f d) (f c) = false) : Hole lt (sw f c pos) n c where
  edge := fun i i0 hi n1 n2 => by
    unfold sw
    by_cases e : i = pos
    · subst e
      rw [if_neg n1, if_pos rfl, if_neg n2, if_neg (show ¬ (i - 1) / 2 = i by omega)]
      exact h.over c c0 cn hc i0
    · rw [if_neg n1, if_neg e, if_neg n2]
      by_cases e2 : (i - 1) / 2 = pos
      · rw [if_pos e2]
        exact hd i i0 hi e2
      · rw [if_neg e2]
        exact h.edge i i0 hi e e2
  over := fun i i0 hi e _ => by
    unfold sw
    have e1 : i ≠ c := by omega
    have e2 : i ≠ pos := by omega
    rw [if_neg e1, if_neg e2, hc, if_neg (show ¬ pos = c by omega), if_pos rfl]
    have := h.edge i i0 hi e2 (by omega)
    rwa [e] at this
theorem hole_up {f : Nat → κ} {n pos : Nat} (O : Ordr lt) (h : UpOk lt f n pos) (p0 : 0 < pos) (hp : pos < n) (hl : lt (f pos) (f ((pos - 1) / 2)) = true) : UpOk lt (sw f ((pos - 1) / 2) pos) n ((pos - 1) / 2) := by
  generalize hq : (pos - 1) / 2 = q at hl ⊢
  have hne : q ≠ pos := by omega
  have hle := O.asym hl
  refine ⟨⟨fun i i0 hi n1 n2 => ?_, fun i i0 hi e q0 => ?_⟩, fun i i0 hi e => ?_⟩
  · unfold sw
    have e0 : i ≠ pos := fun z => by subst z; exact n2 hq
    rw [if_neg n1, if_neg e0, if_neg n2]
    by_cases e2 : (i - 1) / 2 = pos
    · rw [if_pos e2, ← hq]
      exact h.over i i0 hi e2 p0
    · rw [if_neg e2]
      exact h.edge i i0 hi e0 e2
  · unfold sw
    have e1 : i ≠ q := by omega
    rw [if_neg e1, if_neg (show ¬ (q - 1) / 2 = q by omega), if_neg (show ¬ (q - 1) / 2 = pos by omega)]
    have hqe := h.edge q q0 (by omega) hne (by omega)
    by_cases e2 : i = pos
    · rw [if_pos e2]
      exact hqe
    · rw [if_neg e2]
      have := h.edge i i0 hi e2 (by omega)
      rw [e] at this
      exact O.tr hqe this
  · unfold sw
    have e1 : i ≠ q := by omega
    rw [if_neg e1, if_pos rfl]
    by_cases e2 : i = pos
    · rw [if_pos e2]
      exact hle
    · rw [if_neg e2]
      have := h.edge i i0 hi e2 (by omega)
      rw [e] at this
      exact O.tr hle this
theorem up_done {f : Nat → κ} {n pos : Nat} (h : UpOk lt f n pos) (hd : pos = 0 ∨ lt (f pos) (f ((pos - 1) / 2)) = false) : Heaped lt f n := fun i i0 hi => by
  by_cases e : i = pos
  · subst e
    rcases hd with z | z
    · omega
    · exact z
  · by_cases e2 : (i - 1) / 2 = pos
    · rw [e2]
      exact h.kids i i0 hi e2
    · exact h.edge i i0 hi e e2
theorem heap_min {f : Nat → κ} {n : Nat} (O : Ordr lt) (h : Heaped lt f n) : ∀ i, i < n → lt (f i) (f 0) = false := by
  intro i
  induction i using Nat.strongRecOn with
  | ind i ih =>
    intro hi
    by_cases e : i = 0
    · subst e
      exact O.irr _
    · exact O.tr (ih ((i - 1) / 2) (by omega) (by omega)) (h i (by omega) hi)
theorem leaf_up {f : Nat → κ} {n pos : Nat} (h : Hole lt f n pos) (hl : n / 2 ≤ pos) : UpOk lt f n pos := ⟨h, fun i i0 hi e => absurd hi (by omega)⟩
theorem top_hole {f g : Nat → κ} {n : Nat} (h : Heaped lt f n) (hg : ∀ i, 0 < i → i < n → g i = f i) : Hole lt g n 0 where
  edge := fun i i0 hi _ n2 => by
    rw [hg i i0 hi, hg ((i - 1) / 2) (by omega) (by omega)]
    exact h i i0 hi
  over := fun i _ _ _ z => absurd z (Nat.lt_irrefl 0)
theorem end_up {f g : Nat → κ} {n : Nat} (h : Heaped lt f n) (hg : ∀ i, i < n → g i = f i) : UpOk lt g (n + 1) n where
  edge := fun i i0 hi n1 _ => by
    rw [hg i (by omega), hg ((i - 1) / 2) (by omega)]
    exact h i i0 (by omega)
  over := fun i i0 hi e _ => absurd hi (by omega)
  kids := fun i i0 hi e => absurd hi (by omega)
end
end HQ
namespace HQ
open PySem PySem.Spec PyProof.Rows PySem.Calls L2
section
variable {prog : Program} {w : World} {A : Around} {s : Shared} {E : Value → Shared → Prop}
theorem nk {id : String} {ps : List Value} {Q : Unit → Shared → Prop} (h : Q () s) : wpAny (model prog w) A (noKeywords id ⟨ps, []⟩) Q E s := wpAny_pure h
end
/-- keys of items, by data whose order is lt -/
structure Enc {κ : Type} (enc : κ → PyData) (lt : κ → κ → Bool) : Prop where
  ord : Ordr lt
  lt_eq : ∀ a b, PySem.W.dataLt (enc a) (enc b) = lt a b
  alike : ∀ a b, PySem.W.alike (enc a) (enc b) = true
  nn : ∀ a, enc a ≠ .none
  dep : ∀ a, (enc a).depth ≤ 60
section
variable {κ : Type} {enc : κ → PyData} {lt : κ → κ → Bool} {X : Cx} {pins : List (Addr × Obj)} {σ : L2.St} {H : Hp} {a : Addr}
/-- the items' data are read whatever the list at a holds -/
def HpAt (K : PySem.W.Frag) (H : Hp) (a : Addr) (enc : κ → PyData) (ps : List (V × κ)) : Prop := ∀ xs : List V, ∀ p, p ∈ ps → Dp K (L2.upd H a (.lst xs)) p.1 (enc p.2)
/-- the list at a holds these, and nothing else has changed -/
structure At (X : Cx) (pins : List (Addr × Obj)) (σ : L2.St) (H : Hp) (a : Addr) (ps : List (V × κ)) (its : List Value) (n : Nat) (s : Shared) : Prop where
  inv : Inv X pins σ (L2.upd H a (.lst (ps.map Prod.fst))) s
  ho : s.heap.get? a = some (seqObj "list" its.toArray n)
  rv : Vals (ps.map Prod.fst) its
  len : ps.length ≤ 1000
theorem At.of {ps : List (V × κ)} {s : Shared} (I : Inv X pins σ (L2.upd H a (.lst (ps.map Prod.fst))) s) (hl : ps.length ≤ 1000) : ∃ its n, At X pins σ H a ps its n s := by
  obtain ⟨_, its, n, rv, ho⟩ := (show ObjOk X.prog X.w _ s.heap a (.lst (ps.map Prod.fst)) from I.hok a _ upd_same)
  exact ⟨its, n, I, ho, rv, hl⟩
theorem At.get {ps : List (V × κ)} {its : List Value} {n i : Nat} {s : Shared} {p : V × κ} (h : At X pins σ H a ps its n s) (hi : ps[i]? = some p) : ∃ v, its[i]? = some v ∧ RelV p.1 v := h.rv.get (by rw [List.getElem?_map, hi]; rfl)
theorem At.size {ps : List (V × κ)} {its : List Value} {n : Nat} {s : Shared} (h : At X pins σ H a ps its n s) : its.length = ps.length := by rw [← h.rv.length, List.length_map]
theorem upd_upd {H : Hp} {a : Addr} {o u : HO} : L2.upd (L2.upd H a o) a u = L2.upd H a u := by
  funext b
  by_cases e : b = a
  · subst e; rw [upd_same, upd_same]
  · rw [upd_ne e, upd_ne e, upd_ne e]
/-- the list is written -/
theorem At.write {ps qs : List (V × κ)} {its : List Value} {n : Nat} {s : Shared} (h : At X pins σ H a ps its n s) (f : Array Value → Array Value) {ys : List Value} (hf : f its.toArray = ys.toArray) (rv : Vals (qs.map Prod.fst) ys) (hl : qs.length ≤ 1000) : ∃ m, At X pins σ H a qs ys m { s with heap := s.heap.update a (Obj.mapSeq f) } := by
  obtain ⟨m, hm⟩ : ∃ m, (s.heap.update a (Obj.mapSeq f)).get? a = some (seqObj "list" ys.toArray m) := ⟨_, by rw [get?_update_seq h.ho f, hf]⟩
  have I2 := h.inv.write (e := a) (o := .lst (qs.map Prod.fst)) (t' := s.toks) (h' := s.heap.update a (Obj.mapSeq f)) (by rw [upd_same]; trivial) (.inl rfl) (fun b u hb hu => (Heap.get?_update_ne _ _ _ _ hb).trans hu) ⟨_, hm⟩ ⟨by rw [List.length_map, sizeLine_eq]; omega, ys, m, rv, hm⟩
  rw [upd_upd] at I2
  exact ⟨m, I2, hm, rv, hl⟩
theorem vals_swap {xs : List V} {us : List Value} {i j : Nat} {x y : V} {u v : Value} (r : Vals xs us) (h1 : RelV x u) (h2 : RelV y v) : Vals ((xs.set i y).set j x) ((us.set i v).set j u) := Vals.set h1 j (Vals.set h2 i r)
/-- the model's compare of two items of the list -/
theorem less {ps : List (V × κ)} {its : List Value} {n : Nat} {s : Shared} {p q : V × κ} {x y : Value} {A : Around} {E : Value → Shared → Prop} {Q : Value → Shared → Prop} (O : Enc enc lt) (hD : HpAt X.K H a enc ps) (h : At X pins σ H a ps its n s) (hp : p ∈ ps) (hq : q ∈ ps) (rx : RelV p.1 x) (ry : RelV q.1 y) (hu : A.units + 60 < cLine)
    (k : Q (.bool (lt p.2 q.2)) s) : wpAny (model X.prog X.w) A (richCompare .Lt x y) Q E s := by
  obtain ⟨as, r1⟩ := Dp.reads h.inv (enc p.2) p.1 x (hD _ p hp) rx
  obtain ⟨bs, r2⟩ := Dp.reads h.inv (enc q.2) q.1 y (hD _ q hq) ry
  refine PySem.W.rcLt_alike _ _ A s x y _ _ r1 r2 (O.alike _ _) (O.nn _) ?_ X.prog X.w E Q (by rw [O.lt_eq]; exact k)
  have := Nat.min_le_left (enc p.2).depth (enc q.2).depth
  have := O.dep p.2
  omega
variable [Inhabited κ]
def fk (ps : List (V × κ)) : Nat → κ := fun i => ((ps[i]?).map Prod.snd).getD default
theorem fk_at {ps : List (V × κ)} {i : Nat} {p : V × κ} (h : ps[i]? = some p) : fk ps i = p.2 := by unfold fk; rw [h]; rfl
theorem fk_swap {ps : List (V × κ)} {i j : Nat} {p q : V × κ} (hp : ps[i]? = some p) (hq : ps[j]? = some q) (hne : i ≠ j) : fk ((ps.set i q).set j p) = sw (fk ps) i j := by
  have hi := (List.getElem?_eq_some_iff.mp hp).1
  have hj := (List.getElem?_eq_some_iff.mp hq).1
  funext x
  unfold sw
  by_cases e1 : x = i
  · subst e1
    rw [if_pos rfl, fk_at hq]
    exact fk_at (by rw [List.getElem?_set_ne hne.symm, List.getElem?_set_self hi])
  · rw [if_neg e1]
    by_cases e2 : x = j
    · subst e2
      rw [if_pos rfl, fk_at hp]
      exact fk_at (by rw [List.getElem?_set_self (by rw [List.length_set]; exact hj)])
    · rw [if_neg e2]
      unfold fk
      rw [List.getElem?_set_ne (Ne.symm e2), List.getElem?_set_ne (Ne.symm e1)]
theorem swap_perm {ps : List (V × κ)} {i j : Nat} {p q : V × κ} (hp : ps[i]? = some p) (hq : ps[j]? = some q) : ((ps.set i q).set j p).Perm ps := by
  obtain ⟨hi, e1⟩ := List.getElem?_eq_some_iff.mp hp
  obtain ⟨hj, e2⟩ := List.getElem?_eq_some_iff.mp hq
  have := List.set_set_perm (as := ps) hi hj
  rwa [e1, e2] at this
theorem HpAt.perm {K : PySem.W.Frag} {ps qs : List (V × κ)} (h : HpAt K H a enc ps) (hp : qs.Perm ps) : HpAt K H a enc qs := fun xs p hm => h xs p (hp.mem_iff.mp hm)
/-- two items of the list change their places -/
theorem At.swap {ps : List (V × κ)} {its : List Value} {n i j : Nat} {s : Shared} {p q : V × κ} {x y : Value} (h : At X pins σ H a ps its n s) (hp : ps[i]? = some p) (hq : ps[j]? = some q) (hx : its[i]? = some x) (hy : its[j]? = some y) (rx : RelV p.1 x) (ry : RelV q.1 y) :
    ∃ m, At X pins σ H a ((ps.set i q).set j p) ((its.set i y).set j x) m { s with heap := s.heap.update a (Obj.mapSeq fun xs => (xs.setIfInBounds i y).setIfInBounds j x) } :=
  h.write (fun xs => (xs.setIfInBounds i y).setIfInBounds j x) (by simp) (by rw [List.map_set, List.map_set]; exact vals_swap h.rv rx ry) (by rw [List.length_set, List.length_set]; exact h.len)
theorem sift_up {R : Result → Shared → Prop} {res : Value} {A : Around} (O : Enc enc lt) (hu : A.units + 61 < cLine) (ps0 : List (V × κ)) (k : ∀ qs its n s, At X pins σ H a qs its n s → qs.Perm ps0 → Heaped lt (fk qs) qs.length → R (.ok (.ret res)) s) :
    ∀ (pos : Nat) (ps : List (V × κ)) (its : List Value) (n : Nat) (s : Shared), At X pins σ H a ps its n s → HpAt X.K H a enc ps → ps.Perm ps0 → pos < ps.length → UpOk lt (fk ps) ps.length pos →
      codeAny (model X.prog X.w) A (.builtin "_heapq.heapify.sift" ⟨[.ref a, .bool false, .bool false, rawInt pos, rawInt 0, res, rawInt (-1)], []⟩) R s := by
  intro pos
  induction pos using Nat.strongRecOn with
  | ind pos ih =>
    intro ps its n s h hD hperm hpos hup
    refine codeAny_builtin entry_sift ?_
    rw [Around.under_plainId plain_sift _]
    unfold Builtin.«_heapq.heapify.sift»
    refine wpAny_bind ?_
    refine wpAny_bind (wpAny_seqItems h.ho rfl ?_)
    refine wpAny_pure ?_
    dsimp only
    rw [if_neg Bool.false_ne_true, Int.toNat_natCast]
    by_cases p0 : 0 < pos
    · rw [if_pos (show pos > Int.toNat 0 from p0)]
      obtain ⟨p, hp⟩ : ∃ p, ps[pos]? = some p := ⟨_, List.getElem?_eq_getElem hpos⟩
      obtain ⟨q, hq⟩ : ∃ q, ps[(pos - 1) / 2]? = some q := ⟨_, List.getElem?_eq_getElem (by omega)⟩
      obtain ⟨x, hx, rx⟩ := h.get hp
      obtain ⟨y, hy, ry⟩ := h.get hq
      have hpm := List.mem_iff_getElem?.mpr ⟨_, hp⟩
      have hqm := List.mem_iff_getElem?.mpr ⟨_, hq⟩
      refine wpAny_bind ?_
      show wpAny _ _ (match its.toArray[pos]? with | some v => pure v | none => _) _ _ _
      rw [show its.toArray[pos]? = some x by simpa using hx]
      refine wpAny_pure (wpAny_bind ?_)
      show wpAny _ _ (match its.toArray[(pos - 1) / 2]? with | some v => pure v | none => _) _ _ _
      rw [show its.toArray[(pos - 1) / 2]? = some y by simpa using hy]
      refine wpAny_pure ?_
      rw [if_neg Bool.false_ne_true]
      refine wpAny_bind (wpAny_bind (wpAny_holding (wpAny_bind (less (A := A.in1) O hD h hpm hqm rx ry (by show A.units + 1 + 60 < _; omega) (wpAny_truthy_bool (wpAny_bind (wpAny_bind (wpAny_seqItems h.ho rfl (wpAny_pure ?_)))))))))
      dsimp only
      rw [if_neg (by simp)]
      refine wpAny_pure ?_
      cases hlt : lt p.2 q.2 with
      | true =>
        rw [if_pos rfl]
        refine wpAny_bind (wpAny_bind (wpAny_bind (wpAny_seqItems h.ho rfl (wpAny_pure ?_))))
        refine wpAny_bind ?_
        show wpAny _ _ (match its.toArray[(pos - 1) / 2]? with | some v => pure v | none => _) _ _ _
        rw [show its.toArray[(pos - 1) / 2]? = some y by simpa using hy]
        refine wpAny_pure (wpAny_bind ?_)
        show wpAny _ _ (match its.toArray[pos]? with | some v => pure v | none => _) _ _ _
        rw [show its.toArray[pos]? = some x by simpa using hx]
        refine wpAny_pure ?_
        have hsz := h.size
        have hln := h.len
        refine wpAny_updateSeq h.ho rfl ?_ (by rw [List.size_toArray, sizeLine_eq]; omega) (by simp; rw [sizeLine_eq]; omega)
        obtain ⟨m, h2⟩ := h.swap hq hp hy hx ry rx
        have hsw := fk_swap hq hp (show (pos - 1) / 2 ≠ pos by omega)
        have hpm2 := (swap_perm hq hp).trans hperm
        refine wpAny_pure ⟨plainId_quiet plain_sift _, ?_⟩
        refine ih ((pos - 1) / 2) (by omega) _ _ m _ h2 (hD.perm (swap_perm hq hp)) hpm2 (by rw [List.length_set, List.length_set]; omega) ?_
        rw [hsw, List.length_set, List.length_set]
        exact hole_up O.ord hup p0 hpos (by rw [fk_at hp, fk_at hq]; exact hlt)
      | false =>
        rw [if_neg Bool.false_ne_true, if_pos (by decide)]
        refine wpAny_pure ?_
        exact k _ _ _ _ h hperm (up_done hup (.inr (by rw [fk_at hp, fk_at hq]; exact hlt)))
    · rw [if_neg (show ¬ pos > Int.toNat 0 from p0), if_pos (by decide)]
      refine wpAny_pure ?_
      exact k _ _ _ _ h hperm (up_done hup (.inl (by omega)))
theorem sift_down {R : Result → Shared → Prop} {res : Value} {A : Around} (O : Enc enc lt) (hu : A.units + 61 < cLine) (ps0 : List (V × κ)) (k : ∀ qs its n s, At X pins σ H a qs its n s → qs.Perm ps0 → Heaped lt (fk qs) qs.length → R (.ok (.ret res)) s) :
    ∀ (r pos : Nat) (ps : List (V × κ)) (its : List Value) (n : Nat) (s : Shared), ps.length - pos = r → At X pins σ H a ps its n s → HpAt X.K H a enc ps → ps.Perm ps0 → pos < ps.length → Hole lt (fk ps) ps.length pos →
      codeAny (model X.prog X.w) A (.builtin "_heapq.heapify.sift" ⟨[.ref a, .bool false, .bool true, rawInt pos, rawInt 0, res, rawInt (-1)], []⟩) R s := by
  intro r
  induction r using Nat.strongRecOn with
  | ind r ih =>
    intro pos ps its n s hr h hD hperm hpos hho
    have hsz := h.size
    have hln := h.len
    refine codeAny_builtin entry_sift ?_
    rw [Around.under_plainId plain_sift _]
    unfold Builtin.«_heapq.heapify.sift»
    refine wpAny_bind ?_
    refine wpAny_bind (wpAny_seqItems h.ho rfl ?_)
    refine wpAny_pure ?_
    dsimp only
    rw [if_pos rfl, Int.toNat_natCast, List.size_toArray, hsz]
    by_cases hin : pos < ps.length / 2
    · rw [if_pos hin]
      obtain ⟨p, hp⟩ : ∃ p, ps[pos]? = some p := ⟨_, List.getElem?_eq_getElem hpos⟩
      obtain ⟨x, hx, rx⟩ := h.get hp
      obtain ⟨q, hq⟩ : ∃ q, ps[2 * pos + 1]? = some q := ⟨_, List.getElem?_eq_getElem (by omega)⟩
      obtain ⟨y, hy, ry⟩ := h.get hq
      have hqm := List.mem_iff_getElem?.mpr ⟨_, hq⟩
      -- the swap with a child, and on
      have go : ∀ (c : Nat) (u : V × κ) (z : Value), ps[c]? = some u → its[c]? = some z → RelV u.1 z → (c = 2 * pos + 1 ∨ c = 2 * pos + 2) → (∀ d, 0 < d → d < ps.length → (d - 1) / 2 = pos → lt (fk ps d) (fk ps c) = false) →
          codeAny (model X.prog X.w) A (.builtin "_heapq.heapify.sift" ⟨[.ref a, .bool false, .bool true, rawInt c, rawInt 0, res, rawInt (-1)], []⟩) R { s with heap := s.heap.update a (Obj.mapSeq fun xs => (xs.setIfInBounds c x).setIfInBounds pos z) } := by
        intro c u z hc hz rz hcc hd
        have hcl := (List.getElem?_eq_some_iff.mp hc).1
        obtain ⟨m, h2⟩ := h.swap hc hp hz hx rz rx
        have hsw := fk_swap hc hp (show c ≠ pos by omega)
        refine ih (ps.length - c) (by omega) c _ _ m _ (by rw [List.length_set, List.length_set]) h2 (hD.perm (swap_perm hc hp)) ((swap_perm hc hp).trans hperm) (by rw [List.length_set, List.length_set]; omega) ?_
        rw [hsw, List.length_set, List.length_set]
        exact hole_down O.ord hho (by omega) (by omega) hcl hd
      by_cases h2 : 2 * pos + 1 + 1 < ps.length
      · rw [if_pos h2]
        obtain ⟨q2, hq2⟩ : ∃ q, ps[2 * pos + 1 + 1]? = some q := ⟨_, List.getElem?_eq_getElem h2⟩
        obtain ⟨y2, hy2, ry2⟩ := h.get hq2
        have hqm2 := List.mem_iff_getElem?.mpr ⟨_, hq2⟩
        refine wpAny_bind ?_
        show wpAny _ _ (match its.toArray[2 * pos + 1]? with | some v => pure v | none => _) _ _ _
        rw [show its.toArray[2 * pos + 1]? = some y by simpa using hy]
        refine wpAny_pure (wpAny_bind ?_)
        show wpAny _ _ (match its.toArray[2 * pos + 1 + 1]? with | some v => pure v | none => _) _ _ _
        rw [show its.toArray[2 * pos + 1 + 1]? = some y2 by simpa using hy2]
        refine wpAny_pure ?_
        rw [if_neg Bool.false_ne_true]
        refine wpAny_bind (wpAny_bind (wpAny_holding (wpAny_bind (less (A := A.in1) O hD h hqm hqm2 ry ry2 (by show A.units + 1 + 60 < _; omega) (wpAny_truthy_bool (wpAny_bind (wpAny_bind (wpAny_seqItems h.ho rfl (wpAny_pure ?_)))))))))
        dsimp only
        rw [if_neg (by simp [hsz])]
        refine wpAny_pure ?_
        cases hlt : lt q.2 q2.2 with
        | true =>
          rw [if_neg (by decide)]
          refine wpAny_bind (wpAny_bind (wpAny_bind (wpAny_seqItems h.ho rfl (wpAny_pure ?_))))
          refine wpAny_bind ?_
          show wpAny _ _ (match its.toArray[2 * pos + 1]? with | some v => pure v | none => _) _ _ _
          rw [show its.toArray[2 * pos + 1]? = some y by simpa using hy]
          refine wpAny_pure (wpAny_bind ?_)
          show wpAny _ _ (match its.toArray[pos]? with | some v => pure v | none => _) _ _ _
          rw [show its.toArray[pos]? = some x by simpa using hx]
          refine wpAny_pure ?_
          refine wpAny_updateSeq h.ho rfl ?_ (by rw [List.size_toArray, sizeLine_eq]; omega) (by simp; rw [sizeLine_eq]; omega)
          refine wpAny_pure ⟨plainId_quiet plain_sift _, go (2 * pos + 1) q y hq hy ry (.inl rfl) (fun d d0 dn e => ?_)⟩
          rw [fk_at hq]
          have hd : d = 2 * pos + 1 ∨ d = 2 * pos + 1 + 1 := by omega
          rcases hd with rfl | rfl
          · rw [fk_at hq]; exact O.ord.irr _
          · rw [fk_at hq2]; exact O.ord.asym hlt
        | false =>
          rw [if_pos (by decide)]
          refine wpAny_bind (wpAny_bind (wpAny_bind (wpAny_seqItems h.ho rfl (wpAny_pure ?_))))
          refine wpAny_bind ?_
          show wpAny _ _ (match its.toArray[2 * pos + 1 + 1]? with | some v => pure v | none => _) _ _ _
          rw [show its.toArray[2 * pos + 1 + 1]? = some y2 by simpa using hy2]
          refine wpAny_pure (wpAny_bind ?_)
          show wpAny _ _ (match its.toArray[pos]? with | some v => pure v | none => _) _ _ _
          rw [show its.toArray[pos]? = some x by simpa using hx]
          refine wpAny_pure ?_
          refine wpAny_updateSeq h.ho rfl ?_ (by rw [List.size_toArray, sizeLine_eq]; omega) (by simp; rw [sizeLine_eq]; omega)
          refine wpAny_pure ⟨plainId_quiet plain_sift _, go (2 * pos + 1 + 1) q2 y2 hq2 hy2 ry2 (.inr rfl) (fun d d0 dn e => ?_)⟩
          rw [fk_at hq2]
          have hd : d = 2 * pos + 1 ∨ d = 2 * pos + 1 + 1 := by omega
          rcases hd with rfl | rfl
          · rw [fk_at hq]; exact hlt
          · rw [fk_at hq2]; exact O.ord.irr _
      · rw [if_neg h2]
        refine wpAny_bind (wpAny_bind (wpAny_bind (wpAny_seqItems h.ho rfl (wpAny_pure ?_))))
        refine wpAny_bind ?_
        show wpAny _ _ (match its.toArray[2 * pos + 1]? with | some v => pure v | none => _) _ _ _
        rw [show its.toArray[2 * pos + 1]? = some y by simpa using hy]
        refine wpAny_pure (wpAny_bind ?_)
        show wpAny _ _ (match its.toArray[pos]? with | some v => pure v | none => _) _ _ _
        rw [show its.toArray[pos]? = some x by simpa using hx]
        refine wpAny_pure ?_
        refine wpAny_updateSeq h.ho rfl ?_ (by rw [List.size_toArray, sizeLine_eq]; omega) (by simp; rw [sizeLine_eq]; omega)
        refine wpAny_pure ⟨plainId_quiet plain_sift _, go (2 * pos + 1) q y hq hy ry (.inl rfl) (fun d d0 dn e => ?_)⟩
        rw [fk_at hq]
        have hd : d = 2 * pos + 1 := by omega
        subst hd
        rw [fk_at hq]; exact O.ord.irr _
    · rw [if_neg hin]
      refine wpAny_pure ⟨plainId_quiet plain_sift _, ?_⟩
      exact sift_up O hu ps0 k pos ps its n s h hD hperm hpos (leaf_up hho (by omega))
end
section
variable {κ : Type} [Inhabited κ] {X : Cx}
/-- heappush(l, y): l holds items with keys, heaped -/
def rPush (enc : κ → PyData) (lt : κ → κ → Bool) (K : PySem.W.Frag) : List V → Hp → VK → Prop := fun vs H Q => ∃ (a : Addr) (y : V) (k : κ) (ps : List (V × κ)), vs = [.ref a, y] ∧ H a = some (.lst (ps.map Prod.fst)) ∧ HpAt K H a enc (ps ++ [(y, k)]) ∧ Heaped lt (fk ps) ps.length ∧ ps.length ≤ 900 ∧
  ∀ qs : List (V × κ), qs.Perm (ps ++ [(y, k)]) → Heaped lt (fk qs) qs.length → Q .non (L2.upd H a (.lst (qs.map Prod.fst)))
/-- heappop(l) -/
def rPop (enc : κ → PyData) (lt : κ → κ → Bool) (K : PySem.W.Frag) : List V → Hp → VK → Prop := fun vs H Q => ∃ (a : Addr) (ps : List (V × κ)), vs = [.ref a] ∧ H a = some (.lst (ps.map Prod.fst)) ∧ HpAt K H a enc ps ∧ Heaped lt (fk ps) ps.length ∧ 0 < ps.length ∧ ps.length ≤ 1000 ∧
  ∀ (p : V × κ) (qs : List (V × κ)), (p :: qs).Perm ps → (∀ q, q ∈ ps → lt q.2 p.2 = false) → Heaped lt (fk qs) qs.length → Q p.1 (L2.upd H a (.lst (qs.map Prod.fst)))
theorem upd_id {H : Hp} {a : Addr} {o : HO} (h : H a = some o) : L2.upd H a o = H := by
  funext b
  by_cases e : b = a
  · subst e; rw [upd_same, h]
  · rw [upd_ne e]
theorem is_list {prog : Program} {w : World} {A : Around} {s : Shared} {E : Value → Shared → Prop} {Q : Bool → Shared → Prop} {a : Addr} {its : Array Value} {n : Nat} (ho : s.heap.get? a = some (seqObj "list" its n)) (h : Q true s) : wpAny (model prog w) A (isInstance (.ref a) (.type "list")) Q E s :=
  wpAny_isInstance (T := "list") ⟨_, ho, rfl⟩ sub_list_self h
theorem vals_split : ∀ {xs ys : List V} {us ws : List Value}, Vals (xs ++ ys) (us ++ ws) → xs.length = us.length → Vals xs us ∧ Vals ys ws
  | [], ys, [], ws, r, _ => ⟨.nil, r⟩
  | x :: xs, ys, u :: us, ws, r, h => by
    cases r with
    | cons a b =>
      obtain ⟨c, d⟩ := vals_split b (Nat.succ.inj h)
      exact ⟨.cons a c, d⟩
  | [], _, _ :: _, _, _, h => by cases h
  | _ :: _, _, [], _, _, h => by cases h
theorem vals2 {a : Addr} {y : V} {us : List Value} (r : Vals [V.ref a, y] us) : ∃ u, us = [.ref a, u] ∧ RelV y u := by
  cases r with
  | cons r t =>
    cases t with
    | cons r2 t =>
      cases t
      cases r
      exact ⟨_, rfl, r2⟩
theorem cr_push {enc : κ → PyData} {lt : κ → κ → Bool} (O : Enc enc lt) (hu : X.A.units + 64 < cLine) : CallR X (.builtin "_heapq.heappush") (rPush enc lt X.K) := by
  intro pins s σ H vs us Q I r h
  obtain ⟨a, y, k, ps, rfl, ha, hD, hh, hl, kk⟩ := h
  obtain ⟨u, rfl, ru⟩ := vals2 r
  have I0 := I
  rw [← upd_id ha] at I0
  obtain ⟨its, n, h0⟩ := At.of (a := a) (ps := ps) I0 (by omega)
  have hsz := h0.size
  refine call_function_tree kind_push plain_push entry_push (args_push _ _) ?_
  unfold Builtin.«_heapq.heappush»
  refine wpAny_bind (wpAny_bind (nk ?_))
  refine wpAny_bind (wpAny_of_eq (a := ()) (by rfl) ?_)
  refine wpAny_bind (wpAny_bind (is_list h0.ho ?_))
  refine wpAny_pure ?_
  refine wpAny_pure ?_
  dsimp only
  refine wpAny_bind (wpAny_updateSeq h0.ho rfl ?_ (by rw [List.size_toArray, sizeLine_eq]; omega) (by simp; rw [sizeLine_eq]; omega))
  obtain ⟨m, h1⟩ := h0.write (qs := ps ++ [(y, k)]) (fun xs => xs.push u) (ys := its ++ [u]) (by simp) (by rw [List.map_append]; exact Vals.append h0.rv (.cons ru .nil)) (by simp; omega)
  refine wpAny_bind (wpAny_bind (wpAny_seqItems h1.ho rfl (wpAny_pure ?_)))
  refine wpAny_pure ⟨plainId_quiet plain_sift _, ?_⟩
  have hs1 : (its ++ [u]).toArray.size - 1 = ps.length := by simp [hsz]
  rw [hs1]
  refine sift_up O (by omega) (ps ++ [(y, k)]) (fun qs its' n' s' h2 hp hq => ?_) ps.length _ _ m _ h1 hD (List.Perm.refl _) (by simp) ?_
  · exact ⟨.non, _, h2.inv, rfl, kk qs hp hq⟩
  · rw [List.length_append, List.length_singleton]
    exact end_up hh (fun i hi => by
      unfold fk
      rw [List.getElem?_append_left hi])
theorem cr_pop {enc : κ → PyData} {lt : κ → κ → Bool} (O : Enc enc lt) (hu : X.A.units + 64 < cLine) : CallR X (.builtin "_heapq.heappop") (rPop enc lt X.K) := by
  intro pins s σ H vs us Q I r h
  obtain ⟨a, ps, rfl, ha, hD, hh, h0l, hl, kk⟩ := h
  rw [Vals.ref1 r]
  have I0 := I
  rw [← upd_id ha] at I0
  obtain ⟨its, n, h0⟩ := At.of (a := a) (ps := ps) I0 hl
  have hsz := h0.size
  refine call_function_tree kind_pop plain_pop entry_pop (args_pop _) ?_
  unfold Builtin.«_heapq.heappop»
  refine wpAny_bind (wpAny_bind ?_)
  refine wpAny_bind (nk ?_)
  refine wpAny_pure ?_
  refine wpAny_bind (wpAny_bind (is_list h0.ho ?_))
  refine wpAny_pure ?_
  refine wpAny_pure ?_
  dsimp only
  refine wpAny_bind (wpAny_bind (wpAny_seqItems h0.ho rfl (wpAny_pure ?_)))
  have hmin : ∀ p0, ps[0]? = some p0 → ∀ q, q ∈ ps → lt q.2 p0.2 = false := fun p0 hp0 q hq => by
    obtain ⟨i, hi⟩ := List.mem_iff_getElem?.mp hq
    have := heap_min O.ord hh i (List.getElem?_eq_some_iff.mp hi).1
    rwa [fk_at hi, fk_at hp0] at this
  rcases List.eq_nil_or_concat ps with rfl | ⟨init, lp, hps⟩
  · exact absurd h0l (Nat.lt_irrefl 0)
  rw [List.concat_eq_append] at hps
  subst hps
  rcases List.eq_nil_or_concat its with rfl | ⟨iti, last, hits⟩
  · rw [List.length_append, List.length_singleton, List.length_nil] at hsz; omega
  rw [List.concat_eq_append] at hits
  subst hits
  have hsz2 : iti.length = init.length := by simpa using hsz
  have hlast : RelV lp.1 last := by
    obtain ⟨v, hv, rv⟩ := h0.get (i := init.length) (p := lp) (by rw [List.getElem?_append_right (Nat.le_refl _), Nat.sub_self]; rfl)
    rw [← hsz2, List.getElem?_append_right (Nat.le_refl _), Nat.sub_self] at hv
    cases hv
    exact rv
  have hinit : Vals (init.map Prod.fst) iti := by
    have r0 := h0.rv
    rw [List.map_append] at r0
    exact (vals_split r0 (by rw [List.length_map, hsz2])).1
  rw [show (iti ++ [last]).toArray.back? = some last by simp]
  dsimp only
  have hsl : init.length + 1 ≤ 1000 := by simpa using hl
  refine wpAny_bind (wpAny_updateSeq h0.ho rfl ?_ (by rw [List.size_toArray, sizeLine_eq]; simp; omega) (by simp; rw [sizeLine_eq]; omega))
  obtain ⟨m, h1⟩ := h0.write (qs := init) (fun xs => xs.pop) (ys := iti) (by simp) hinit (by omega)
  by_cases hone : init = []
  · subst hone
    rw [if_pos (by simp at hsz2; simp [hsz2])]
    refine wpAny_pure ?_
    exact ⟨lp.1, _, h1.inv, hlast, kk lp [] (by simp) (hmin lp rfl) (fun i h1 h2 => absurd h2 (Nat.not_lt_zero _))⟩
  · rw [if_neg (by
      have : iti.length ≠ 0 := by rw [hsz2]; exact fun z => hone (List.length_eq_zero_iff.mp z)
      simp; intro z; exact this (by rw [z]; rfl))]
    obtain ⟨p0, rest, rfl⟩ : ∃ p0 rest, init = p0 :: rest := by
      cases init with
      | nil => exact absurd rfl hone
      | cons p0 rest => exact ⟨p0, rest, rfl⟩
    obtain ⟨x0, hx0, rx0⟩ := h0.get (i := 0) (p := p0) rfl
    refine wpAny_bind ?_
    show wpAny _ _ (match (iti ++ [last]).toArray[0]? with | some v => pure v | none => _) _ _ _
    rw [show (iti ++ [last]).toArray[0]? = some x0 by rw [List.getElem?_toArray]; exact hx0]
    refine wpAny_pure (wpAny_bind (wpAny_updateSeq h1.ho rfl ?_ (by rw [List.size_toArray, sizeLine_eq]; omega) (by simp; rw [sizeLine_eq]; omega)))
    obtain ⟨m2, h2⟩ := h1.write (qs := lp :: rest) (fun xs => xs.setIfInBounds 0 last) (ys := iti.set 0 last) (by simp) (by
      have := Vals.set hlast 0 h1.rv
      rwa [List.map_cons, List.set_cons_zero] at this) (by simp at hsl ⊢; omega)
    refine wpAny_pure ⟨plainId_quiet plain_sift _, ?_⟩
    have hperm : (p0 :: (lp :: rest)).Perm (p0 :: rest ++ [lp]) := by
      rw [List.cons_append]
      exact List.Perm.cons _ (by simpa using (List.perm_append_comm (l₁ := [lp]) (l₂ := rest)))
    refine sift_down O (by omega) (lp :: rest) (fun qs its' n' s' h3 hp hq => ?_) _ 0 _ _ m2 _ rfl h2 (fun xs p hp => hD xs p (hperm.mem_iff.mp (List.mem_cons_of_mem _ hp))) (List.Perm.refl _) (by simp) ?_
    · exact ⟨p0.1, _, h3.inv, rx0, kk p0 qs ((List.Perm.cons _ hp).trans hperm) (hmin p0 rfl) hq⟩
    · refine top_hole (f := fk (p0 :: rest ++ [lp])) (fun i i0 hi => hh i i0 (by simp at hi ⊢; omega)) fun i i0 hi => ?_
      unfold fk
      obtain ⟨j, rfl⟩ : ∃ j, i = j + 1 := ⟨i - 1, by omega⟩
      rw [List.cons_append, List.getElem?_cons_succ, List.getElem?_cons_succ, List.getElem?_append_left (by simpa using hi)]
end
end HQ
namespace My
open PySem L2
variable [Tn]

local macro_rules | `(tactic| walk_at "src") => `(tactic| first | assumption | (refine' SrcAt.keep ?h ?s; (case s => assumption); (case h => walk_at "src")))
local macro_rules | `(tactic| walk_at "ne") => `(tactic| first | assumption | (apply Ne.symm; assumption) | (refine' SrcAt.ne ?a ?b; (case b => assumption); (case a => walk_at "src")))
local macro_rules | `(tactic| walk_at "hp") => `(tactic| first
  | assumption
  | with_reducible exact upd_same
  | (refine' Same.at ?s ?h; (case s => assumption); (case h => walk_at "hp"))
  | (refine' But.at ?s ?n ?h; (case s => assumption); (case n => walk_at "ne"); (case h => walk_at "hp"))
  | (rw [upd_ne (by first | assumption | (apply Ne.symm; assumption))]; walk_at "hp"))
local macro_rules | `(tactic| walk_at "side") => `(tactic| first | assumption | decide | omega | exact mulL (by omega) (by omega) | exact mulR (by omega) (by omega) | exact cdiv_of (by omega) (by omega) | exact powOk (by omega) (by omega) (by decide) | exact mulL (Int.lt_of_lt_of_le (by decide) (fmod_nn (by decide))) (Int.lt_trans (fmod_lt (by decide)) (by decide)))
local macro_rules | `(tactic| walk_at "pl") => `(tactic| ((repeat with_reducible refine putF_le ?_); with_unfolding_all exact Nat.le_of_ble_eq_true rfl))
local macro_rules | `(tactic| walk_at "lk") => `(tactic| first | assumption | (rw [lookup_putF, if_pos rfl]) | (rw [lookup_putF, if_neg (by decide +kernel)]; walk_at "lk"))
local macro_rules | `(tactic| walk_at "cls") => `(tactic| first | with_unfolding_all exact Txt.cl_Machine (by assumption) | with_unfolding_all exact Txt.nF_Machine_o (by assumption) | with_unfolding_all exact Txt.nF_Machine_l (by assumption) | with_unfolding_all exact Txt.nF_Machine_g (by assumption) | with_unfolding_all exact Txt.nF_Machine_letter (by assumption) | with_unfolding_all exact Txt.nF_Machine_gap (by assumption))
/-- one turn of a reading -/
local macro_rules | `(tactic| walk_at "rd") => `(tactic| with_reducible first
  | (refine r_seq ?_; fail_if_success (refine r_ifS ?_))
  | refine r_asg ?_
  | refine r_gName ?_
  | (refine' r_var ?hv ?_; (case hv => with_unfolding_all exact rfl))
  | refine r_c ?_
  | refine r_op ?_
  | refine r_I0 ?_
  | (refine' r_I ?hc ?_; (case hc => walk_at "side"))
  | refine r_add ?_
  | refine r_sub ?_
  | refine r_eqI ?_
  | refine r_neI ?_
  | (refine' r_ixL ?hp ?he ?_; (case hp => walk_at "hp"); (case he => with_unfolding_all exact rfl))
  | (refine' r_ixT ?hp ?he ?_; (case hp => walk_at "hp"); (case he => with_unfolding_all exact rfl))
  | refine r_cons ?_
  | refine r_nil ?_
  | refine r_CB ?_
  | refine r_call ?_
  | refine r_test ?_
  | refine r_tB ?_
  | refine r_bl ?_
  | refine r_in ?_
  | refine Or.inl (r_in1 ?_)
  | refine r_in1 ?_
  | refine r_in2 ?_
  | (refine' r_lenL ?hp ?_; (case hp => walk_at "hp"))
  | (refine' r_lenT ?hp ?_; (case hp => walk_at "hp"))
  | refine r_ifS ?_
  | refine r_and ?_
  | refine r_or ?_
  | refine r_not ?_
  | refine r_andV ?_
  | refine r_orV ?_
  | refine r_notV ?_
  | refine r_ifE ?_
  | refine r_ret ?_
  | refine r_next ?_
  | refine r_drop ?_
  | refine r_gSub ?_
  | (refine' r_setL ?hp ?he ?_; (case hp => walk_at "hp"); (case he => with_unfolding_all exact rfl))
  | (refine' r_aug ?he ?_; (case he => with_unfolding_all exact rfl))
  | refine r_augS ?_
  | refine r_ip ?_
  | refine r_tup ?_
  | refine r_lst ?_
  | refine r_tFld ?_
  | (refine' r_fld ?hc ?hn ?hx ?he ?_; (case hx => walk_at "hp"); (case hc => walk_at "cls"); (case hn => walk_at "cls"); (case he => walk_at "lk"))
  | (refine' r_put ?hc ?hn ?hx ?hl ?_; (case hx => walk_at "hp"); (case hc => walk_at "cls"); (case hn => walk_at "cls"); (case hl => walk_at "pl"))
  | refine r_sl ?_
  | refine r_noP ?_
  | refine r_part ?_
  | refine r_un ?_
  | refine r_U ?_
  | refine r_Bm ?_
  | refine r_cont ?_
  | refine r_brk ?_
  | refine r_isNn ?_
  | refine r_isNi ?_
  | refine r_isNr ?_
  | refine r_notNn ?_
  | refine r_notNi ?_
  | refine r_notNr ?_
  | refine r_chain ?_
  | refine r_sFld ?_
  | refine r_make ?_
  | refine r_yes ?_
  | refine r_lc ?_
  | refine r_isiI true (by decide +kernel) ?_
  | refine r_isiI false (by decide +kernel) ?_
  | refine r_for ?_
  | refine r_iR1 ?_
  | refine r_iR2 ?_
  | refine r_iL ?_
  | refine r_tMeth ?_
  | (refine' r_meth ?hx ?hl ?_; (case hx => walk_at "hp"); (case hl => walk_at "no"))
  | refine r_iT ?_
  | refine iteT ?_
  | refine r_nF ?_
  | refine r_nT ?_
  | refine iteF ?_)
local macro_rules | `(tactic| walk_at "rdi") => `(tactic| with_reducible (refine r_seq ?_; refine r_ifS ?_))

/-! ### the law's draws -/
def spDraw : Sp := fun vs H Q _ => ∃ (p q : Addr) (lim : Int), vs = [.ref p, .int lim] ∧ SrcAt H p q ∧ 0 < lim ∧ lim < 2 ^ 200 ∧
  ∀ (r : Int) (H' : Hp), 0 ≤ r → r < lim → SrcAt H' p q → But p H H' → Q (.int r) H'
section
variable {P : Program} {w : World} {K : PySem.W.Frag} {mg : Str → Option Value} {base : Heap} {a : Adr}
theorem ok__law_draw (T : Txt K mg base a) : FnOk P w K mg base CX0 1 a.a__law_draw a.d__law_draw ["_law_source_here", "_law_limit"] spDraw := by
  refine T.F__law_draw.ok sc__law_draw (fun vs H Q E h => ?_) (fun cdv A outer s H vs Q E hr h => ?_)
  · obtain ⟨p, q, lim, rfl, _⟩ := h
    rfl
  · obtain ⟨p, q, lim, rfl, ⟨cs, i, big, cnt, st, h1, h2, h3, hi, hb, hl⟩, hl0, hl1, k⟩ := h
    refine ⟨_, (pss_cons (ps_augS (pv 0) pe_int gt_list pe_int ip_add set_list)
 (pss_cons (ps_if (PW.pt (pw_and (pt_cmpR op_eq (pe_ix ix_list (pv 0) pe_int (fun _ _ => rfl)) pe_int (nomark _)) (pw_and1 (pt_cmpR op_lt (pe_ix ix_list (pv 0) pe_int (fun _ _ => rfl)) (pe_callB call_len_seq (by rfl) T.n_len (by decide +kernel) (pa_cons (pe_ix ix_list (pv 0) pe_int (fun _ _ => rfl)) pa_nil)) (nomark _))))) (pss_cons (ps_set (i := 2) sc__law_draw.nd rfl (Or.inl rfl) (pe_ix ix_list (pe_ix ix_list (pv 0) pe_int (fun _ _ => rfl)) (pe_ix ix_list (pv 0) pe_int (fun _ _ => rfl)) (fun _ _ => rfl)))
 (pss_cons (ps_augS (pv 0) pe_int gt_list pe_int ip_add set_list)
 (pss_one (ps_if (pt_cmpR op_ge (pv 2) (pe_powN (z := 1000000000000000000) ⟨by decide, by decide, by decide⟩ (by decide +kernel)) (nomark _)) (pss_one (ps_asg (pv 2) (pg_sub (pv 0) pe_int set_list)))
 (pss_one (ps_asg (pe_op op_modN (pe_callTy call_int1 (by rfl) T.n_int (by decide +kernel) (pa_cons (pe_op op_add (pe_op op_add (pe_op op_mul (pe_ix ix_list (pv 0) pe_int (fun _ _ => rfl)) pe_int) (pe_op op_mul (pv 2) pe_int)) pe_int) pa_nil)) pe_int) (pg_sub (pv 0) pe_int set_list)))))))
 pss_nil)
 (pss_cons (ps_if (pt_cmpR op_gt (pe_ix ix_list (pv 0) pe_int (fun _ _ => rfl)) pe_int (nomark _)) (pss_cons (ps_set (i := 3) sc__law_draw.nd rfl (Or.inl rfl) (pe_op op_modN (pe_callTy call_int1 (by rfl) T.n_int (by decide +kernel) (pa_cons (pe_ix ix_list (pv 0) pe_int (fun _ _ => rfl)) pa_nil)) (pv 1)))
 (pss_cons (ps_asg (pe_op op_fdivW (pe_ix ix_list (pv 0) pe_int (fun _ _ => rfl)) (pv 1)) (pg_sub (pv 0) pe_int set_list))
 (pss_one (ps_ret (pv 3)))))
 pss_nil)
 (pss_cons (ps_set (i := 4) sc__law_draw.nd rfl (Or.inl rfl) (pe_op op_modN (pe_callTy call_int1 (by rfl) T.n_int (by decide +kernel) (pa_cons (pe_op op_mul (pe_op op_add (pe_ix ix_list (pv 0) pe_int (fun _ _ => rfl)) (pe_op op_mul pe_int (pe_ix ix_list (pv 0) pe_int (fun _ _ => rfl)))) pe_int) pa_nil)) pe_int))
 (pss_cons (ps_set (i := 5) sc__law_draw.nd rfl (Or.inl rfl) (pe_op op_modN (pe_callTy call_int1 (by rfl) T.n_int (by decide +kernel) (pa_cons (pe_op op_mul (pv 4) (pe_op op_add (pe_op op_fdivW (pv 4) pe_int) pe_int)) pa_nil)) pe_int))
 (pss_cons (ps_set (i := 6) sc__law_draw.nd rfl (Or.inl rfl) (pe_op op_modN (pe_callTy call_int1 (by rfl) T.n_int (by decide +kernel) (pa_cons (pe_op op_mul (pv 5) (pe_op op_add (pe_op op_fdivW (pv 5) pe_int) pe_int)) pa_nil)) pe_int))
 (pss_one (ps_ret (pe_op op_modN (pe_callTy call_int1 (by rfl) T.n_int (by decide +kernel) (pa_cons (pe_op op_fdivW (pv 6) pe_int) pa_nil)) (pv 1)))))))))), ?_⟩
    -- src[3] += 1
    repeat walk_at "rd"
    with_reducible refine seq_with (fun σ H' => ∃ (i big cnt st : Int) (v : Option V), σ = [some (.ref p), some (.int lim), v, none, none, none, none] ∧ H' p = some (.lst [.ref q, .int i, .int big, .int cnt, .int st]) ∧ H' q = some (.lst (cs.map V.int)) ∧ But p H H' ∧ 0 ≤ i ∧ 0 ≤ big) ?_ (fun rest => ?_)
    · clear h1 h2 hi hb
      rintro σ H' ⟨i, big, cnt, st, v, rfl, hp, hq, bt, hi, hb⟩
      walk_at "rdi"
      repeat walk_at "rd"
      refine ite_d (fun hc => ?_) (fun hc => ?_)
      · repeat walk_at "rd"
        exact k _ _ (fmod_nn hl0) (fmod_lt hl0) ⟨cs, i, _, cnt, st, upd_same, (upd_ne h3).trans hq, h3, hi, Int.ediv_nonneg hb (by omega), hl⟩ (bt.trans But.upd)
      · repeat walk_at "rd"
        exact k _ _ (fmod_nn hl0) (fmod_lt hl0) ⟨cs, i, _, cnt, st, hp, hq, h3, hi, hb, hl⟩ bt
    · have nq : H q ≠ none := by rw [h2]; intro z; cases z
      have hp1 : upd H p (HO.lst ([V.ref q, V.int i, V.int big, V.int cnt, V.int st].set (Int.toNat 3) (V.int (cnt + 1)))) p = some (.lst [.ref q, .int i, .int big, .int (cnt + 1), .int st]) := upd_same
      have hq1 : upd H p (HO.lst ([V.ref q, V.int i, V.int big, V.int cnt, V.int st].set (Int.toNat 3) (V.int (cnt + 1)))) q = some (.lst (cs.map V.int)) := (upd_ne h3).trans h2
      have bt1 : But p H (upd H p (HO.lst ([V.ref q, V.int i, V.int big, V.int cnt, V.int st].set (Int.toNat 3) (V.int (cnt + 1))))) := But.upd
      generalize upd H p (HO.lst ([V.ref q, V.int i, V.int big, V.int cnt, V.int st].set (Int.toNat 3) (V.int (cnt + 1)))) = H1 at hp1 hq1 bt1 ⊢
      clear h1 h2
      have no : ∀ (v : Option V), _ := fun v => rest [some (.ref p), some (.int lim), v, none, none, none, none] H1 ⟨i, big, cnt + 1, st, v, rfl, hp1, hq1, bt1, hi, hb⟩
      repeat walk_at "rd"
      refine ite_d (fun hc => ?_) (fun hc => ?_)
      · repeat walk_at "rd"
        refine ite_d (fun hc2 => ?_) (fun hc2 => ?_)
        · obtain ⟨c, hc3, _⟩ := at_nat (ns := cs) hi hc2
          repeat walk_at "rd"
          refine r_ixL hq1 hc3 ?_
          repeat walk_at "rd"
          refine ite_d (fun hc4 => ?_) (fun hc4 => ?_)
          · repeat walk_at "rd"
            exact rest _ _ ⟨i + 1, c, cnt + 1, st, _, rfl, upd_same, (upd_ne h3).trans ((upd_ne h3).trans hq1), (bt1.trans But.upd).trans But.upd, by omega, by omega⟩
          · repeat walk_at "rd"
            exact rest _ _ ⟨i + 1, big, cnt + 1, _, _, rfl, upd_same, (upd_ne h3).trans ((upd_ne h3).trans hq1), (bt1.trans But.upd).trans But.upd, by omega, by omega⟩
        · ((repeat walk_at "rd"); exact no none)
      · ((repeat walk_at "rd"); exact no none)

def spBig : Sp := fun vs H Q _ => ∃ (p q : Addr) (lim : Int), vs = [.ref p, .int lim] ∧ SrcAt H p q ∧ 0 < lim ∧
  ∀ (r : Int) (H' : Hp), 0 ≤ r → r < lim → SrcAt H' p q → But p H H' → Q (.int r) H'
theorem ok__law_big (T : Txt K mg base a) : FnOk P w K mg base CX0 2 a.a__law_big a.d__law_big ["_law_source_here", "_law_limit"] spBig := by
  refine T.F__law_big.ok sc__law_big (fun vs H Q E h => ?_) (fun cdv A outer s H vs Q E hr h => ?_)
  · obtain ⟨p, q, lim, rfl, _⟩ := h
    rfl
  · obtain ⟨p, q, lim, rfl, hs, hl0, k⟩ := h
    refine ⟨_, (pss_cons (ps_set (i := 2) sc__law_big.nd rfl (Or.inl rfl) pe_int)
 (pss_cons (ps_for (by exact PassesOwn.never) rfl (pi_range1 (by rfl) T.n_range (pa_cons pe_int pa_nil)) (pg_name (i := 3) sc__law_big.nd rfl (Or.inl rfl))
 (pss_one (ps_set (i := 2) sc__law_big.nd rfl (Or.inl rfl) (pe_op op_add (pe_op op_mul (pv 2) pe_int) (pe_call (ok__law_draw T) (hr.mono (by decide)) (by rfl) T.g__law_draw T.F__law_draw.kp T.b__law_draw .nil pass0 (pa_cons (pv 0) (pa_cons pe_int pa_nil)))))))
 (pss_one (ps_ret (pe_op op_modN (pe_callTy call_int1 (by rfl) T.n_int (by decide +kernel) (pa_cons (pv 2) pa_nil)) (pv 1)))))), ?_⟩
    repeat walk_at "rd"
    refine ⟨by decide, by decide, for_range (lo := 0) (n := 5) (fun i σ H' => ∃ (n : Int) (v : Option V), σ = [some (.ref p), some (.int lim), some (.int n), v] ∧ SrcAt H' p q ∧ But p H H') ⟨_, _, rfl, hs, But.refl _ _⟩ ?_ ?_⟩
    · rintro i σ H1 hi ⟨n, v, rfl, hs1, b1⟩
      repeat walk_at "rd"
      refine ⟨p, q, _, rfl, hs1, by decide, by decide, fun r H2 r0 r1 hs2 b2 => ?_⟩
      repeat walk_at "rd"
      exact ⟨_, _, rfl, hs2, b1.trans b2⟩
    · rintro σ H1 ⟨n, v, rfl, hs1, b1⟩
      repeat walk_at "rd"
      exact k _ _ (fmod_nn hl0) (fmod_lt hl0) hs1 b1
end

/-! ### the machine's numbers, its times, whether a thing is an int -/
/-- o, l, g of a machine, at t -/
structure NumAt (H : Hp) (t : Addr) (o l g : Int) : Prop where
  at_ : H t = some (.tup [.int o, .int l, .int g])
  o0 : 0 ≤ o
  o9 : o ≤ 1000000000
  l0 : 0 ≤ l
  l9 : l ≤ 1000000000
  g1 : 1 ≤ g
  g9 : g ≤ 1000000000
  pos : 0 < 2 * o + l
theorem NumAt.keep {H H' : Hp} {t : Addr} {o l g : Int} (N : NumAt H t o l g) (h : H' t = H t) : NumAt H' t o l g := { N with at_ := h.trans N.at_ }
def spNumbers : Sp := fun vs H Q _ => ∃ (p q : Addr), vs = [.ref p] ∧ SrcAt H p q ∧ ∀ (t : Addr) (o l g : Int) (H' : Hp), NumAt H' t o l g → H t = none → SrcAt H' p q → But p H H' → Q (.ref t) H'
def gapOf (o g : Int) : Int := if g > o then g else o
def spTimes : Sp := fun vs H Q _ => ∃ (t : Addr) (o l g : Int), vs = [.ref t] ∧ H t = some (.tup [.int o, .int l, .int g]) ∧ ∀ (u : Addr) (H' : Hp), H u = none → Same H H' → H' u = some (.tup [.int (2 * o + l), .int (gapOf o g)]) → Q (.ref u) H'
def spIs : Sp := fun vs H Q _ => ∃ (i j : Int), vs = [.int i, .int j] ∧ Q (.bl (decide (i = j))) H
def spSource (K : PySem.W.Frag) : Sp := fun vs H Q _ => ∃ (b : Addr) (ns : List Int), vs = [.ref b] ∧ SqL K H b (ns.map V.int) ∧ ns.length ≤ 63 ∧ ∀ (p q : Addr) (H' : Hp), SrcAt H' p q → H p = none → H q = none → Same H H' → Q (.ref p) H'
section
variable {P : Program} {w : World} {K : PySem.W.Frag} {mg : Str → Option Value} {base : Heap} {a : Adr}
theorem ok__law_source (T : Txt K mg base a) : FnOk P w K mg base CX0 1 a.a__law_source a.d__law_source ["_law_script"] (spSource K) := by
  refine T.F__law_source.ok sc__law_source (fun vs H Q E h => ?_) (fun cdv A outer s H vs Q E hr h => ?_)
  · obtain ⟨i, j, rfl, _⟩ := h
    rfl
  · obtain ⟨b, ns, rfl, hS, hl, k⟩ := h
    refine ⟨_, (pss_one (ps_ret (pe_lst (pa_cons (pe_lc (own := [("_law_cell", 1)]) (g := gName 1) (tt := tYes) rfl sc__law_source.nd (pi_list (pe_slice sl_list (pv 0) po_none (po_some pe_int))) (blkOk_by (own := [("_law_cell", 1)]) (N := ["_law_script", "_law_cell"]) (sc := defScope s__law_source) (by decide +kernel)) (fun _ _ _ _ _ => (pg_name (i := 1) sc__law_source.nd rfl (Or.inl rfl))) (fun _ _ _ _ _ => pts_nil) (fun _ _ _ _ _ => (pe_callTy call_int1 (by rfl) T.n_int (by decide +kernel) (pa_cons (pv 1) pa_nil)))) (pa_cons pe_int (pa_cons pe_int (pa_cons pe_int (pa_cons pe_int pa_nil)))))))), ?_⟩
    repeat walk_at "rd"
    refine r_slL hS (fun p0 H1 n0 s1 e0 => ?_)
    rw [cut_take (by rw [List.length_map]; omega)] at e0
    refine ⟨p0, rfl, ⟨_, SqL.of e0⟩, fun D hD => lc_list (K := K) (a := p0) (xs := ns.map V.int) (fun i H' => H' D = some (.lst ((ns.take i).map V.int)) ∧ H' p0 = some (.lst (ns.map V.int)) ∧ Same H H') ?_ (fun i H' _ h => SqL.of h.2.1) ?_ ?_⟩
    · exact ⟨upd_same, (upd_ne (ne_of_none e0 hD)).trans e0, s1.trans (Same.new hD)⟩
    · rintro i x H2 hi ⟨h1, h2, h3⟩
      obtain ⟨z, hz, rfl⟩ := int_of_get hi
      repeat walk_at "rd"
      refine ⟨rfl, ?_⟩
      repeat walk_at "rd"
      have nD : H D = none := s1.free hD
      refine ⟨_, h1, small1000 (by rw [List.length_map, List.length_take]; omega), ?_, (upd_ne (ne_of_none e0 hD)).trans h2, h3.over nD h1⟩
      rw [upd_same, take_more hz, List.map_append]
      rfl
    · rintro H2 ⟨h1, h2, h3⟩
      repeat walk_at "rd"
      refine new_at (Nat.le_of_ble_eq_true rfl) (fun p H3 np s3 e3 => ?_)
      rw [List.length_map, List.take_length] at h1
      exact k p D _ ⟨ns, 0, 0, 0, 7, e3, s3 _ _ h1, ne_of_none h1 np, by decide, by decide, hl⟩ (h3.free np) (s1.free hD) (h3.trans s3)
theorem ok__law_numbers (T : Txt K mg base a) : FnOk P w K mg base CX0 3 a.a__law_numbers a.d__law_numbers ["_law_source_here"] spNumbers := by
  refine T.F__law_numbers.ok sc__law_numbers (fun vs H Q E h => ?_) (fun cdv A outer s H vs Q E hr h => ?_)
  · obtain ⟨p, q, rfl, _⟩ := h
    rfl
  · obtain ⟨p, q, rfl, hs, k⟩ := h
    refine ⟨_, (pss_cons (ps_set (i := 1) sc__law_numbers.nd rfl (Or.inl rfl) (pe_call (ok__law_draw T) (hr.mono (by decide)) (by rfl) T.g__law_draw T.F__law_draw.kp T.b__law_draw .nil pass0 (pa_cons (pv 0) (pa_cons pe_int pa_nil))))
 (pss_cons (ps_set (i := 2) sc__law_numbers.nd rfl (Or.inl rfl) (pe_ix ix_list (pe_lst (pa_cons (pe_tup (pa_cons pe_int (pa_cons pe_int (pa_cons pe_int pa_nil)))) (pa_cons (pe_tup (pa_cons pe_int (pa_cons pe_int (pa_cons pe_int pa_nil)))) (pa_cons (pe_tup (pa_cons pe_int (pa_cons pe_int (pa_cons pe_int pa_nil)))) (pa_cons (pe_tup (pa_cons pe_int (pa_cons pe_int (pa_cons pe_int pa_nil)))) (pa_cons (pe_tup (pa_cons pe_int (pa_cons pe_int (pa_cons pe_int pa_nil)))) (pa_cons (pe_tup (pa_cons (pe_op op_add (pe_powN (z := 1000000000) ⟨by decide, by decide, by decide⟩ (by decide +kernel)) pe_int) (pa_cons (pe_op op_add (pe_powN (z := 1000000000) ⟨by decide, by decide, by decide⟩ (by decide +kernel)) pe_int) (pa_cons (pe_powN (z := 1000000000) ⟨by decide, by decide, by decide⟩ (by decide +kernel)) pa_nil)))) pa_nil))))))) (pv 1) (fun _ _ => rfl)))
 (pss_cons (ps_set (i := 3) sc__law_numbers.nd rfl (Or.inl rfl) (pe_call (ok__law_big T) (hr.mono (by decide)) (by rfl) T.g__law_big T.F__law_big.kp T.b__law_big .nil pass0 (pa_cons (pv 0) (pa_cons (pe_ix ix_tup (pv 2) pe_int (fun _ _ => rfl)) pa_nil))))
 (pss_cons (ps_set (i := 4) sc__law_numbers.nd rfl (Or.inl rfl) (pe_call (ok__law_big T) (hr.mono (by decide)) (by rfl) T.g__law_big T.F__law_big.kp T.b__law_big .nil pass0 (pa_cons (pv 0) (pa_cons (pe_ix ix_tup (pv 2) pe_int (fun _ _ => rfl)) pa_nil))))
 (pss_cons (ps_set (i := 5) sc__law_numbers.nd rfl (Or.inl rfl) (pe_op op_add pe_int (pe_call (ok__law_big T) (hr.mono (by decide)) (by rfl) T.g__law_big T.F__law_big.kp T.b__law_big .nil pass0 (pa_cons (pv 0) (pa_cons (pe_ix ix_tup (pv 2) pe_int (fun _ _ => rfl)) pa_nil)))))
 (pss_cons (ps_if (pt_cmpR op_eq (pe_op op_add (pe_op op_mul pe_int (pv 3)) (pv 4)) pe_int (nomark _)) (pss_one (ps_set (i := 4) sc__law_numbers.nd rfl (Or.inl rfl) pe_int))
 pss_nil)
 (pss_one (ps_ret (pe_tup (pa_cons (pv 3) (pa_cons (pv 4) (pa_cons (pv 5) pa_nil)))))))))))), ?_⟩
    repeat walk_at "rd"
    refine ⟨p, q, 6, rfl, hs, by decide, by decide, fun kind H1 k0 k6 hs1 b1 => ?_⟩
    repeat walk_at "rd"
    refine new_at (Nat.le_of_ble_eq_true rfl) (fun t1 H2 n1 s1 e1 => ?_)
    repeat walk_at "rd"
    refine new_at (Nat.le_of_ble_eq_true rfl) (fun t2 H3 n2 s2 e2 => ?_)
    repeat walk_at "rd"
    refine new_at (Nat.le_of_ble_eq_true rfl) (fun t3 H4 n3 s3 e3 => ?_)
    repeat walk_at "rd"
    refine new_at (Nat.le_of_ble_eq_true rfl) (fun t4 H5 n4 s4 e4 => ?_)
    repeat walk_at "rd"
    refine new_at (Nat.le_of_ble_eq_true rfl) (fun t5 H6 n5 s5 e5 => ?_)
    repeat walk_at "rd"
    refine new_at (Nat.le_of_ble_eq_true rfl) (fun t6 H7 n6 s6 e6 => ?_)
    repeat walk_at "rd"
    refine new_at (Nat.le_of_ble_eq_true rfl) (fun tl H8 n7 s7 e7 => ?_)
    obtain ⟨t, A, B, C, hat, et, nt, hA, hB, hC⟩ : ∃ (t : Addr) (A B C : Int), atI [V.ref t1, V.ref t2, V.ref t3, V.ref t4, V.ref t5, V.ref t6] kind = some (.ref t) ∧ H8 t = some (.tup [.int A, .int B, .int C]) ∧ t ≠ p ∧ (1 ≤ A ∧ A ≤ 1000000001) ∧ (1 ≤ B ∧ B ≤ 1000000001) ∧ 1 ≤ C ∧ C ≤ 1000000000 := by
      have hk : kind = 0 ∨ kind = 1 ∨ kind = 2 ∨ kind = 3 ∨ kind = 4 ∨ kind = 5 := by omega
      rcases hk with rfl | rfl | rfl | rfl | rfl | rfl
      · exact ⟨t1, _, _, _, rfl, by walk_at "hp", by walk_at "ne", by decide, by decide, by decide⟩
      · exact ⟨t2, _, _, _, rfl, by walk_at "hp", by walk_at "ne", by decide, by decide, by decide⟩
      · exact ⟨t3, _, _, _, rfl, by walk_at "hp", by walk_at "ne", by decide, by decide, by decide⟩
      · exact ⟨t4, _, _, _, rfl, by walk_at "hp", by walk_at "ne", by decide, by decide, by decide⟩
      · exact ⟨t5, _, _, _, rfl, by walk_at "hp", by walk_at "ne", by decide, by decide, by decide⟩
      · exact ⟨t6, _, _, _, rfl, by walk_at "hp", by walk_at "ne", by decide, by decide, by decide⟩
    have hs8 : SrcAt H8 p q := by walk_at "src"
    have b8 : But p H H8 := b1.trans (But.of_same (s1.trans (s2.trans (s3.trans (s4.trans (s5.trans (s6.trans s7)))))))
    repeat walk_at "rd"
    refine r_ixL e7 hat ?_
    clear e1 e2 e3 e4 e5 e6 s1 s2 s3 s4 s5 s6 s7 n1 n2 n3 n4 n5 n6 b1 hat e7
    repeat walk_at "rd"
    refine ⟨p, q, A, rfl, hs8, by omega, fun o H9 o0 oA hs9 b9 => ?_⟩
    repeat walk_at "rd"
    refine ⟨p, q, B, rfl, hs9, by omega, fun l H10 l0 lB hs10 b10 => ?_⟩
    repeat walk_at "rd"
    refine ⟨p, q, C, rfl, hs10, by omega, fun g H11 g0 gC hs11 b11 => ?_⟩
    have b12 : But p H H11 := ((b8.trans b9).trans b10).trans b11
    repeat walk_at "rd"
    with_reducible refine seq_with (fun σ H' => ∃ (l' : Int), σ = [some (.ref p), some (.int kind), some (.ref t), some (.int o), some (.int l'), some (.int (1 + g))] ∧ H' = H11 ∧ 0 < 2 * o + l' ∧ 0 ≤ l' ∧ l' ≤ 1000000000) ?_ (fun rest => ?_)
    · rintro σ H' ⟨l', rfl, rfl, h1, h2, h3⟩
      repeat walk_at "rd"
      refine new_at (Nat.le_of_ble_eq_true rfl) (fun u H12 nu su eu => ?_)
      have nH : H u = none := b12.free hs11 nu
      exact k u o l' (1 + g) _ ⟨eu, o0, by omega, h2, h3, by omega, by omega, h1⟩ nH (hs11.keep su) (b12.trans (But.of_same su))
    · repeat walk_at "rd"
      refine ite_d (fun hc => ?_) (fun hc => ?_)
      · iterate 3 walk_at "rd"
        exact rest _ _ ⟨1, rfl, rfl, by omega, by omega, by omega⟩
      · walk_at "rd"
        exact rest _ _ ⟨l, rfl, rfl, by omega, by omega, by omega⟩
end

/-! ### integers, machines -/
/-- whether the value is an int and no bool -/
def IntV (K : PySem.W.Frag) (H : Hp) (x : V) (b : Bool) : Prop := ∃ (t : Value) (b1 b2 : Bool), TyX K H x t ∧ PySem.W.kitOne K t (.type "int") = some b1 ∧ PySem.W.kitOne K t (.type "bool") = some b2 ∧ b = (b1 && !b2)
theorem IntV.int {K : PySem.W.Frag} {H : Hp} {i : Int} : IntV K H (.int i) true := ⟨_, true, false, .base (.int i), kit_ty (by decide +kernel), kit_ty (by decide +kernel), rfl⟩
theorem r_isi {K : PySem.W.Frag} {H : Hp} {Q : VK} {x : V} {t : Value} {n : String} {b : Bool} (ty : TyX K H x t) (h : PySem.W.kitOne K t (.type n) = some b) (q : Q (.bl b) H) : rIsi K [x, .ty n] H Q := ⟨_, _, t, .type n, b, rfl, .ty n, ty, h, q⟩
def spIsInteger (K : PySem.W.Frag) : Sp := fun vs H Q _ => ∃ (x : V) (b : Bool), vs = [x] ∧ IntV K H x b ∧ Q (.bl b) H
def spBetween (K : PySem.W.Frag) : Sp := fun vs H Q _ => ∃ (x : V) (lo hi : Int) (b : Bool), vs = [x, .int lo, .int hi] ∧ IntV K H x b ∧ (b = false → Q (.bl false) H) ∧ (b = true → ∃ i, x = .int i ∧ Q (.bl (decide (lo ≤ i ∧ i ≤ hi))) H)
theorem r_between {K : PySem.W.Frag} {H : Hp} {Q : VK} {E : XK} {i lo hi : Int} (q : Q (.bl (decide (lo ≤ i ∧ i ≤ hi))) H) : spBetween K [.int i, .int lo, .int hi] H Q E := ⟨_, lo, hi, true, rfl, IntV.int, (fun z => Bool.noConfusion z), fun _ => ⟨i, rfl, q⟩⟩
/-- the attributes of a machine -/
def mf (o l g : Int) : List (Str × V) := putF "gap" (.int (gapOf o g)) (putF "letter" (.int (2 * o + l)) (putF "g" (.int g) (putF "l" (.int l) (putF "o" (.int o) []))))
def MachAt (C : Addr) (H : Hp) (m : Addr) (o l g : Int) : Prop := ∃ dx, H m = some (.ins C dx (mf o l g))
theorem MachAt.keep {C m : Addr} {H H' : Hp} {o l g : Int} (h : MachAt C H m o l g) (s : Same H H') : MachAt C H' m o l g := let ⟨dx, e⟩ := h; ⟨dx, s _ _ e⟩
theorem mf_o {o l g : Int} : (mf o l g).lookup ("o" : Str) = some (.int o) := by unfold mf; walk_at "lk"
theorem mf_l {o l g : Int} : (mf o l g).lookup ("l" : Str) = some (.int l) := by unfold mf; walk_at "lk"
theorem mf_g {o l g : Int} : (mf o l g).lookup ("g" : Str) = some (.int g) := by unfold mf; walk_at "lk"
theorem mf_letter {o l g : Int} : (mf o l g).lookup ("letter" : Str) = some (.int (2 * o + l)) := by unfold mf; walk_at "lk"
theorem mf_gap {o l g : Int} : (mf o l g).lookup ("gap" : Str) = some (.int (gapOf o g)) := by unfold mf; walk_at "lk"
theorem MachAt.but {C m p : Addr} {H H' : Hp} {o l g : Int} (h : MachAt C H m o l g) (s : But p H H') (n : m ≠ p) : MachAt C H' m o l g := let ⟨dx, e⟩ := h; ⟨dx, s _ _ e n⟩
def spMachine (C : Addr) : Sp := fun vs H Q _ => ∃ (m dx : Addr) (o l g : Int), vs = [.ref m, .int o, .int l, .int g] ∧ H m = some (.ins C dx []) ∧ (0 ≤ o ∧ o ≤ 1000000000) ∧ (0 ≤ l ∧ l ≤ 1000000000) ∧ (1 ≤ g ∧ g ≤ 1000000000) ∧ 0 < 2 * o + l ∧ ∀ H', MachAt C H' m o l g → But m H H' → Q .non H'
local macro_rules | `(tactic| walk_at "lk") => `(tactic| first | exact mf_o | exact mf_l | exact mf_g | exact mf_letter | exact mf_gap)
section
variable {P : Program} {w : World} {K : PySem.W.Frag} {mg : Str → Option Value} {base : Heap} {a : Adr}
theorem ok_is_integer (T : Txt K mg base a) : FnOk P w K mg base CX0 1 a.a_is_integer a.d_is_integer ["thing"] (spIsInteger K) := by
  refine T.F_is_integer.ok sc_is_integer (fun vs H Q E h => ?_) (fun cdv A outer s H vs Q E hr h => ?_)
  · obtain ⟨x, b, rfl, _⟩ := h
    rfl
  · obtain ⟨x, b, rfl, ⟨t, b1, b2, ty, h1, h2, rfl⟩, k⟩ := h
    refine ⟨_, (pss_one (ps_ret (pe_and (pe_callB call_isi (by rfl) T.n_isinstance (by decide +kernel) (pa_cons (pv 0) (pa_cons (pe_bltn (v := .ty "int") (u := .type "int") (by rfl) T.n_int (by decide +kernel) rfl) pa_nil))) (pe_one (pe_not (pe_callB call_isi (by rfl) T.n_isinstance (by decide +kernel) (pa_cons (pv 0) (pa_cons (pe_bltn (v := .ty "bool") (u := .type "bool") (by rfl) T.n_bool (by decide +kernel) rfl) pa_nil)))))))), ?_⟩
    repeat walk_at "rd"
    refine r_isi ty h1 ?_
    refine ⟨b1, rfl, ?_⟩
    cases b1 with
    | false => exact iteF k
    | true =>
      repeat walk_at "rd"
      refine r_isi ty h2 ?_
      exact ⟨b2, rfl, k⟩
theorem ok_is_between (T : Txt K mg base a) : FnOk P w K mg base CX0 2 a.a_is_between a.d_is_between ["thing", "low", "high"] (spBetween K) := by
  refine T.F_is_between.ok sc_is_between (fun vs H Q E h => ?_) (fun cdv A outer s H vs Q E hr h => ?_)
  · obtain ⟨x, lo, hi, b, rfl, _⟩ := h
    rfl
  · obtain ⟨x, lo, hi, b, rfl, iv, k0, k1⟩ := h
    refine ⟨_, (pss_one (ps_ret (pe_and (pe_call (ok_is_integer T) (hr.mono (by decide)) (by rfl) T.g_is_integer T.F_is_integer.kp T.b_is_integer .nil pass0 (pa_cons (pv 0) pa_nil)) (pe_one (pe_chain op_le op_le (pv 1) (pv 0) (pv 2)))))), ?_⟩
    repeat walk_at "rd"
    refine ⟨x, b, rfl, iv, ?_⟩
    refine ⟨b, rfl, ?_⟩
    cases b with
    | false => exact iteF (k0 rfl)
    | true =>
      obtain ⟨i, rfl, q⟩ := k1 rfl
      repeat walk_at "rd"
      refine ite_d (fun h1 => ?_) (fun h1 => ?_)
      · repeat walk_at "rd"
        rw [decide_eq_decide.mpr (show lo ≤ i ∧ i ≤ hi ↔ i ≤ hi from ⟨fun h => h.2, fun h => ⟨h1, h⟩⟩)] at q
        exact q
      · rw [decide_eq_false (show ¬ (lo ≤ i ∧ i ≤ hi) from fun h => h1 h.1)] at q
        exact q
theorem ok_Machine_init (T : Txt K mg base a) : FnOk P w K mg base CX0 3 a.a_Machine_init a.d_Machine_init ["self", "o", "l", "g"] (spMachine a.c_Machine) := by
  refine T.F_Machine_init.ok sc_Machine_init (fun vs H Q E h => ?_) (fun cdv A outer s H vs Q E hr h => ?_)
  · obtain ⟨m, dx, o, l, g, rfl, _⟩ := h
    rfl
  · obtain ⟨m, dx, o, l, g, rfl, hm, ho, hl, hg, hp, k⟩ := h
    refine ⟨_, (pss_cons (ps_if (pt_not (pt_val (pe_call (ok_is_between T) (hr.mono (by decide)) (by rfl) T.g_is_between T.F_is_between.kp T.b_is_between .nil pass0 (pa_cons (pv 1) (pa_cons pe_int (pa_cons (pe_glob (v := .int 1000000000) (by rfl) T.g_GREATEST_PART.choose_spec ⟨_, rfl⟩) pa_nil)))))) (pss_one ps_never)
 pss_nil)
 (pss_cons (ps_if (pt_not (pt_val (pe_call (ok_is_between T) (hr.mono (by decide)) (by rfl) T.g_is_between T.F_is_between.kp T.b_is_between .nil pass0 (pa_cons (pv 2) (pa_cons pe_int (pa_cons (pe_glob (v := .int 1000000000) (by rfl) T.g_GREATEST_PART.choose_spec ⟨_, rfl⟩) pa_nil)))))) (pss_one ps_never)
 pss_nil)
 (pss_cons (ps_if (pt_not (pt_val (pe_call (ok_is_between T) (hr.mono (by decide)) (by rfl) T.g_is_between T.F_is_between.kp T.b_is_between .nil pass0 (pa_cons (pv 3) (pa_cons pe_int (pa_cons (pe_glob (v := .int 1000000000) (by rfl) T.g_GREATEST_PART.choose_spec ⟨_, rfl⟩) pa_nil)))))) (pss_one ps_never)
 pss_nil)
 (pss_cons (ps_if (pt_cmpR op_eq (pe_op op_add (pe_op op_mul pe_int (pv 1)) (pv 2)) pe_int (nomark _)) (pss_one ps_never)
 pss_nil)
 (pss_cons (ps_fld (pv 0) (pv 1) rfl)
 (pss_cons (ps_fld (pv 0) (pv 2) rfl)
 (pss_cons (ps_fld (pv 0) (pv 3) rfl)
 (pss_cons (ps_fld (pv 0) (pe_op op_add (pe_op op_mul pe_int (pv 1)) (pv 2)) rfl)
 (pss_one (ps_fld (pv 0) (pe_callB (call_max2 rfl) (by rfl) T.n_max (by decide +kernel) (pa_cons (pv 1) (pa_cons (pv 3) pa_nil))) rfl)))))))))), ?_⟩
    walk_at "rdi"
    repeat walk_at "rd"
    refine r_between ?_
    repeat walk_at "rd"
    refine r_nD (fun h => absurd ho h) (fun _ => ?_)
    walk_at "rd"
    walk_at "rdi"
    repeat walk_at "rd"
    refine r_between ?_
    repeat walk_at "rd"
    refine r_nD (fun h => absurd hl h) (fun _ => ?_)
    walk_at "rd"
    walk_at "rdi"
    repeat walk_at "rd"
    refine r_between ?_
    repeat walk_at "rd"
    refine r_nD (fun h => absurd hg h) (fun _ => ?_)
    walk_at "rd"
    walk_at "rdi"
    repeat walk_at "rd"
    refine ite_d (fun h => absurd h (by omega)) (fun _ => ?_)
    repeat walk_at "rd"
    refine k _ ⟨dx, ?_⟩ ?_
    · exact upd_same
    · exact But.upd.trans (But.upd.trans (But.upd.trans (But.upd.trans But.upd)))
end

/-! ### own rules: C(..) by a local name, x op y by an own def, targets in a tuple -/
/-- the slot n holds the class at C: a new instance -/
def tMakeL (n : Nat) (C : Addr) (sp : Sp) (dvs : List V) (E : XK) (t : TA) : TE := fun σ H Q => σ[n]? = some (some (.ref C)) ∧ tMake C sp dvs E t σ H Q
/-- x op y, x an instance with a dict, y of a known type -/
def rOwnD (K : PySem.W.Frag) (C : Addr) (sp : Sp) (E : XK) : R2 := fun x y H Q => ∃ m dx fs tb, x = .ref m ∧ H m = some (.ins C dx fs) ∧ TyX K H y tb ∧ PySem.W.notFirst K C tb = true ∧ sp [x, y] H Q E
section
variable {X : Cx} {CX : CXT} {k i : Nat} {f C : Addr} {fd : FuncData} {ps : List Str} {sp : Sp} {dvs : List V} {ds : List Value} {E : XK} {x : Str} {p pos : Pos} {e : Expr} {es : List Expr} {t : TA}
theorem pe_makeL (M : Mk X.K C f) (F : FnOk X.prog X.w X.K X.mg X.base CX k f fd ps sp) (hr : Room (k + 1) X.A) (hN : X.N[i]? = some x) (hv : Vis X.env.scope x) (hb : Binds X.K fd ps ds) (hd : Vals dvs ds) (hx : Passes CX X E) (ha : PA X (e :: es) t)
    (hdb : (x == ("__debug__" : Str)) = false := by decide) (hcd : (x == ("__classdict__" : Str)) = false := by decide)
    (he : starEach (e :: es) X.env = (false, eval e X.env) :: starEach es X.env := by rfl) (hpl : (backTo pos (starEach es X.env)).any (·.1) = false := by rfl) : PE X (.Call (.Name x p) (e :: es) [] pos) (tMakeL i C sp dvs E t) := by
  refine ⟨fun pins s σ H Q I h => wpAny_Call_Name_kw (thn ((pe_var (pos := p) hN hv hdb hcd).run pins s σ H (fun v H1 => v = .ref C ∧ H1 = H) I ⟨.ref C, h.1, rfl, rfl⟩) fun u s1 g => ?_)⟩
  obtain ⟨v, H1, J, r1, rfl, rfl⟩ := g
  cases r1
  exact PySem.W.callWith_K (h₀ := X.base) J.ok.mod.kin M.kp (thn (ha.run pos pins s1 σ _ _ J h.2) fun us s2 ⟨vs, H2, J2, r, q⟩ => ⟨J2.kIn, run_make M F hr hb hd hx J2 r q⟩) he hpl
theorem op_ownD {op : CmpOp} {g : Addr} {n : Nat} (hop : ∀ a b, compareOp op a b = richCompare op a b) (hs : PySem.W.findIn X.K (.ref C) (cmpInfo op).2.1 = some (some (.ref g))) (hf : PySem.W.isFn X.K (.ref g) = true) (F : FnR X.prog X.w X.K X.mg X.base CX n g sp)
    (hr : Room n X.A) (hx : Passes CX X E) : OpR X (compareOp op) (rOwnD X.K C sp E) := by
  intro pins s σ H x y v u Q I rx ry h
  obtain ⟨m, dx, fs, tb, rfl, hm, ty, hn, q⟩ := h
  obtain rfl : v = Value.ref m := rx
  obtain ⟨mA, J, _⟩ := ins_get I.hok hm
  obtain ⟨od, J, _⟩ := J.look
  obtain ⟨Pk, Z, pz, _⟩ := kit_of I ry ty
  obtain ⟨mF, hF⟩ := I.fr
  rw [hop]
  refine PySem.W.cmp_K (op := op) (tb := tb) hr.units0 hF I.ok.mod.kin J (Z.ty _ _ I.kIn pz) hn hs hf ?_
  refine wpAny_mono (wpAny_call (run_fnR (us := [.ref m, u]) (vs := [.ref m, y]) F hr hx I (.cons rfl (.cons ry .nil)) q)) (fun w s' z => ?_) fun _ _ x => x
  exact (let ⟨z', H', I', rz, qz⟩ := z; SlX.cmpback rz ⟨z', H', I', rz, qz⟩)
end
theorem kit_self {K : PySem.W.Frag} {C : Addr} : PySem.W.kitOne K (.ref C) (.ref C) = some true := by
  unfold PySem.W.kitOne
  rw [if_pos (by simp)]
theorem kit_no {K : PySem.W.Frag} {C : Addr} {n : String} (h1 : PySem.W.isClsIn K C = true) (h2 : PySem.W.typeIn K (.ref C) = some (.type "type")) (h3 : PySem.W.subIn K (.type n) (.ref C) = some false) : PySem.W.kitOne K (.type n) (.ref C) = some false := by
  have e : ((PySem.W.clsIn K C).isSome && PySem.W.typeIn K (.ref C) == some (.type "type")) = true := by
    rw [show (PySem.W.clsIn K C).isSome = true from h1, h2]
    rfl
  unfold PySem.W.kitOne
  rw [if_neg (by simp)]
  show (if ((PySem.W.clsIn K C).isSome && PySem.W.typeIn K (.ref C) == some (.type "type")) = true then PySem.W.subIn K (.type n) (.ref C) else none) = some false
  rw [if_pos e]
  exact h3
theorem nf_self {K : PySem.W.Frag} {C : Addr} : PySem.W.notFirst K C (.ref C) = true := by
  unfold PySem.W.notFirst
  simp
theorem nf_no {K : PySem.W.Frag} {C : Addr} {n : String} (h3 : PySem.W.subIn K (.type n) (.ref C) = some false) : PySem.W.notFirst K C (.type n) = true := by
  unfold PySem.W.notFirst
  rw [h3]
  simp
section
variable {K : PySem.W.Frag} {σ : St} {H : Hp} {Q : VK} {R : St → Hp → Prop} {n : Nat} {v : V} {vs : List V}
theorem r_gTup {t : TGs} {p : Addr} (h : H p = some (.tup vs)) (hl : vs.length = n) (q : t vs σ H R) : gTup K n t (.ref p) σ H R := ⟨p, vs, rfl, SqT.of h, hl, q⟩
theorem r_gCons {t : TG} {u : TGs} (h : t v σ H fun σ' H' => u vs σ' H' R) : gCons t u (v :: vs) σ H R := ⟨v, vs, rfl, h⟩
theorem r_gNil (h : R σ H) : gNil [] σ H R := ⟨rfl, h⟩
theorem r_nDT {c A B : Prop} [Decidable c] (hc : c) (h : B) : if (!decide c) = true then A else B := r_nD (fun z => absurd hc z) fun _ => h
theorem r_neB {a b : Bool} (q : Q (.bl (!decide (a = b))) H) : rNe (.bl a) (.bl b) H Q := ⟨rfl, by
  have e : decide (V.bl a = V.bl b) = decide (a = b) := by cases a <;> cases b <;> decide
  rw [e]; exact q⟩
theorem r_isB {a b : Bool} (q : Q (.bl (decide (a = b))) H) : rIsB (.bl a) (.bl b) H Q := ⟨a, b, rfl, rfl, q⟩
theorem r_notB {a b : Bool} (q : Q (.bl (!decide (a = b))) H) : rNotB (.bl a) (.bl b) H Q := ⟨a, b, rfl, rfl, q⟩
theorem r_dnew (k : ∀ p H', H p = none → Same H H' → H' p = some (.dK []) → Q (.ref p) H') : tDNewK σ H Q := new_of k
theorem r_makeL {C : Addr} {sp : Sp} {dvs : List V} {E : XK} {t : TA} (e : σ[n]? = some (some (.ref C))) (h : tMake C sp dvs E t σ H Q) : tMakeL n C sp dvs E t σ H Q := ⟨e, h⟩
theorem r_cmeth {C : Addr} {sp : Sp} {E : XK} {t : TA} (h : t σ H fun vs H2 => sp (.ref C :: vs) H2 Q E) : ClX.tCMeth C sp E (tC (.ref C)) t σ H Q := ⟨rfl, h⟩
theorem eq_ints {xs ys : List Int} : PyData.eqvAll (xs.map PyData.int) (ys.map PyData.int) = decide (xs = ys) := by
  induction xs generalizing ys with
  | nil => cases ys <;> rfl
  | cons x xs ih =>
    cases ys with
    | nil => rfl
    | cons y ys =>
      show (PyData.eqv (.int x) (.int y) && PyData.eqvAll (xs.map PyData.int) (ys.map PyData.int)) = _
      rw [ih]
      show ((x == y) && decide (xs = ys)) = _
      by_cases h : x = y
      · subst h; simp
      · simp [h]
theorem dp_ints (xs : List Int) : DpAll K H (xs.map V.int) (xs.map PyData.int) := by
  induction xs with
  | nil => exact .nil
  | cons x xs ih => exact .cons (.int x) ih
/-- == of two tuples of ints -/
theorem r_eqT {p q : Addr} {xs ys : List Int} (h1 : H p = some (.tup (xs.map V.int))) (h2 : H q = some (.tup (ys.map V.int))) (s1 : SeqAt.shaped (.tuple (xs.map PyData.int)) = true) (s2 : SeqAt.shaped (.tuple (ys.map PyData.int)) = true)
    (k : Q (.bl (decide (xs = ys))) H) : rEqD K (.ref p) (.ref q) H Q := ⟨_, _, .tup (SqT.of h1) (dp_ints xs), .tup (SqT.of h2) (dp_ints ys), s1, s2, by
  show Q (.bl (PyData.eqvAll (xs.map PyData.int) (ys.map PyData.int))) H
  rw [eq_ints]; exact k⟩
end
theorem r_Machine {C : Addr} {H : Hp} {Q : VK} {E : XK} {o l g : Int} (ho : 0 ≤ o ∧ o ≤ 1000000000) (hl : 0 ≤ l ∧ l ≤ 1000000000) (hg : 1 ≤ g ∧ g ≤ 1000000000) (hp : 0 < 2 * o + l) (k : ∀ m H', H m = none → MachAt C H' m o l g → Same H H' → Q (.ref m) H') :
    MakeAt C (spMachine C) ([.int o, .int l, .int g] ++ []) E H Q :=
  fun x dx nx nd _ => ⟨x, dx, o, l, g, rfl, upd_same, ho, hl, hg, hp, fun H' hm bt => ⟨rfl, k x H' nx hm (Same.made nx nd bt)⟩⟩

local macro_rules | `(tactic| walk_at "rd") => `(tactic| with_reducible first
  | (refine' r_gTup ?hp ?hl ?_; (case hp => walk_at "hp"); (case hl => with_unfolding_all exact rfl))
  | refine r_gCons ?_
  | refine r_gNil ?_
  | refine r_nDT rfl ?_
  | refine r_neB ?_
  | refine r_isB ?_
  | refine r_notB ?_
  | refine r_cmeth ?_
  | (refine' r_makeL ?he ?_; (case he => with_unfolding_all exact rfl))
  | refine r_isiB true (by decide +kernel) ?_
  | refine r_isiB false (by decide +kernel) ?_
  | refine r_callN ?_
  | refine r_andV ?_)

/-! ### min(xs), xs a list of pairs of ints -/
def pairD (p : Int × Int) : PyData := .tuple [.int p.1, .int p.2]
/-- this pair is no later than that one -/
def LeP (p q : Int × Int) : Prop := p.1 < q.1 ∨ (p.1 = q.1 ∧ p.2 ≤ q.2)
theorem LeP.trans {p q r : Int × Int} (h : LeP p q) (k : LeP q r) : LeP p r := by
  unfold LeP at *; omega
theorem LeP.refl (p : Int × Int) : LeP p p := .inr ⟨rfl, Int.le_refl _⟩
theorem lt_pair {p q : Int × Int} : PySem.W.dataLt (pairD p) (pairD q) = if p.1 = q.1 then decide (p.2 < q.2) else decide (p.1 < q.1) := by
  have ha : ∀ a b : Int, PySem.W.alike (.int a) (.int b) = true := fun a b => by simp only [PySem.W.alike]
  unfold pairD
  rw [PySem.W.dataLt_tuple]
  by_cases c : p.1 = q.1
  · rw [if_pos c, PySem.W.dataLt_all_yes (ha _ _) (by show (p.1 == q.1) = true; simp [c])]
    by_cases d : p.2 = q.2
    · rw [PySem.W.dataLt_all_yes (ha _ _) (by show (p.2 == q.2) = true; simp [d]), decide_eq_false (show ¬ p.2 < q.2 by omega)]
      exact PyProof.Rows.lex_irrefl _
    · rw [PySem.W.dataLt_all_no (ha _ _) (by show (p.2 == q.2) = false; simp [d])]
      exact PySem.W.dataLt_int _ _
  · rw [if_neg c, PySem.W.dataLt_all_no (ha _ _) (by show (p.1 == q.1) = false; simp [c])]
    exact PySem.W.dataLt_int _ _
theorem min_pair : ∀ (ps : List (Int × Int)) (p : Int × Int), ∃ m, m ∈ p :: ps ∧ PySem.W.minD (pairD p) (ps.map pairD) = pairD m ∧ ∀ q, q ∈ p :: ps → LeP m q
  | [], p => ⟨p, List.mem_singleton.mpr rfl, rfl, fun q hq => by rw [List.mem_singleton] at hq; subst hq; exact LeP.refl _⟩
  | q :: ps, p => by
    have e : PySem.W.minD (pairD p) ((q :: ps).map pairD) = PySem.W.minD (if PySem.W.dataLt (pairD q) (pairD p) = true then pairD q else pairD p) (ps.map pairD) := rfl
    rw [e, lt_pair]
    by_cases c : (if q.1 = p.1 then decide (q.2 < p.2) else decide (q.1 < p.1)) = true
    · rw [if_pos c]
      have hle : LeP q p := by
        unfold LeP
        split at c
        · have := of_decide_eq_true c; omega
        · have := of_decide_eq_true c; omega
      obtain ⟨m, hm, e, h⟩ := min_pair ps q
      refine ⟨m, List.mem_cons_of_mem _ hm, e, fun r hr => ?_⟩
      rcases List.mem_cons.mp hr with rfl | hr
      · exact (h q (List.mem_cons_self ..)).trans hle
      · exact h r hr
    · rw [if_neg c]
      have hle : LeP p q := by
        unfold LeP
        split at c
        · rw [decide_eq_true_eq] at c; omega
        · rw [decide_eq_true_eq] at c; omega
      obtain ⟨m, hm, e, h⟩ := min_pair ps p
      refine ⟨m, ?_, e, fun r hr => ?_⟩
      · rcases List.mem_cons.mp hm with rfl | hm
        · exact List.mem_cons_self ..
        · exact List.mem_cons_of_mem _ (List.mem_cons_of_mem _ hm)
      · rcases List.mem_cons.mp hr with rfl | hr
        · exact h r (List.mem_cons_self ..)
        · rcases List.mem_cons.mp hr with rfl | hr
          · exact (h p (List.mem_cons_self ..)).trans hle
          · exact h r (List.mem_cons_of_mem _ hr)
/-- items that are pairs -/
def PairsAt (H : Hp) : List V → List (Int × Int) → Prop
  | [], [] => True
  | x :: xs, p :: ps => (∃ t, x = .ref t ∧ H t = some (.tup [.int p.1, .int p.2])) ∧ PairsAt H xs ps
  | _, _ => False
theorem PairsAt.keep {H H' : Hp} (s : Same H H') : ∀ {xs : List V} {ps : List (Int × Int)}, PairsAt H xs ps → PairsAt H' xs ps
  | [], [], _ => trivial
  | _ :: _, _ :: _, ⟨⟨t, e, h⟩, r⟩ => ⟨⟨t, e, s _ _ h⟩, r.keep s⟩
theorem PairsAt.upd {H : Hp} {L : Addr} {zs : List V} {o : HO} (e : H L = some (.lst zs)) : ∀ {xs : List V} {ps : List (Int × Int)}, PairsAt H xs ps → PairsAt (L2.upd H L o) xs ps
  | [], [], _ => trivial
  | _ :: _, _ :: _, ⟨⟨t, e1, h⟩, r⟩ => ⟨⟨t, e1, (upd_ne (fun z => by rw [z, e] at h; cases h)).trans h⟩, r.upd e⟩
theorem PairsAt.snoc {H : Hp} {t : Addr} {p : Int × Int} (ht : H t = some (.tup [.int p.1, .int p.2])) : ∀ {xs : List V} {ps : List (Int × Int)}, PairsAt H xs ps → PairsAt H (xs ++ [.ref t]) (ps ++ [p])
  | [], [], _ => ⟨⟨t, rfl, ht⟩, trivial⟩
  | _ :: _, _ :: _, ⟨h, r⟩ => ⟨h, r.snoc ht⟩
theorem PairsAt.at {H : Hp} : ∀ {xs : List V} {ps : List (Int × Int)} {i : Nat} {x : V}, PairsAt H xs ps → xs[i]? = some x → ∃ (t : Addr) (p : Int × Int), x = .ref t ∧ ps[i]? = some p ∧ H t = some (.tup [.int p.1, .int p.2])
  | x :: _, p :: _, 0, y, ⟨⟨t, e, h⟩, _⟩, hy => by
    obtain rfl : x = y := by simpa using hy
    exact ⟨t, p, e, rfl, h⟩
  | _ :: _, _ :: _, i + 1, y, ⟨_, r⟩, hy => r.at (i := i) (by simpa using hy)
  | [], [], _, _, _, hy => by simp at hy
theorem PairsAt.len {H : Hp} : ∀ {xs : List V} {ps : List (Int × Int)}, PairsAt H xs ps → xs.length = ps.length
  | [], [], _ => rfl
  | _ :: _, _ :: _, ⟨_, r⟩ => congrArg Nat.succ r.len
theorem PairsAt.dp {K : PySem.W.Frag} {H : Hp} : ∀ {xs : List V} {ps : List (Int × Int)}, PairsAt H xs ps → DpAll K H xs (ps.map pairD)
  | [], [], _ => .nil
  | _ :: _, _ :: _, ⟨⟨_, e, h⟩, r⟩ => by subst e; exact .cons (.tup (SqT.of h) (.cons (.int _) (.cons (.int _) .nil))) r.dp
def rMinP (K : PySem.W.Frag) : List V → Hp → VK → Prop := fun vs H Q => ∃ (a : Addr) (xs : List V) (ps : List (Int × Int)), vs = [.ref a] ∧ SqL K H a xs ∧ PairsAt H xs ps ∧ 0 < ps.length ∧ ∀ t p, p ∈ ps → (∀ q, q ∈ ps → LeP p q) → H t = some (.tup [.int p.1, .int p.2]) → Q (.ref t) H
theorem alike_pair (p q : Int × Int) : PySem.W.alike (pairD p) (pairD q) = true := by
  simp only [pairD, PySem.W.alike, PySem.W.alikeAll, Bool.and_self]
theorem alike_pairs (ps : List (Int × Int)) : PySem.W.AlikeAll (ps.map pairD) := by
  refine ⟨fun x hx y hy => ?_, fun x hx => ?_⟩
  · obtain ⟨p, _, rfl⟩ := List.mem_map.mp hx
    obtain ⟨q, _, rfl⟩ := List.mem_map.mp hy
    exact alike_pair p q
  · obtain ⟨p, _, rfl⟩ := List.mem_map.mp hx
    intro z; cases z
theorem dep_pairs : ∀ ps : List (Int × Int), PyData.depthAll (ps.map pairD) ≤ 2
  | [] => by decide
  | p :: ps => by
    have h := dep_pairs ps
    show max (PyData.depth (pairD p)) (PyData.depthAll (ps.map pairD)) ≤ 2
    have h1 : PyData.depth (pairD p) ≤ 2 := Nat.le_of_ble_eq_true rfl
    exact Nat.max_le.mpr ⟨h1, h⟩
theorem cr_minP {X : Cx} (hc : X.calm = true) (hu : X.A.units + 64 < cLine) : CallR X (.builtin "min") (rMinP X.K) := by
  intro pins s σ H vs us Q I r h
  obtain ⟨a, xs, ps, rfl, hs, hp, hne, q⟩ := h
  obtain ⟨its, rv, hl, _⟩ := I.list hs
  rw [Vals.ref1 r]
  cases ps with
  | nil => cases hne
  | cons p ps =>
    obtain ⟨as, hr⟩ := Dp.readsAll I ((p :: ps).map pairD) xs its hp.dp rv
    have hlen : its.length = ps.length + 1 := by rw [← rv.length, hp.len]; rfl
    have hr2 : ReadsAll s.heap its.toArray.toList ((p :: ps).map pairD) as := by rw [List.toList_toArray]; exact hr
    refine PySem.call_min_walkH (PySem.W.iter_listW (A := X.A.in1) (I.ok.hd hc) hl.isList fun s₂ e W st hfp hw hk => ?_)
    refine ⟨_, _, _, _, _, _, _, s.heap, _, rfl, W, st, hfp, by rw [List.size_toArray]; omega, hw, hk, PySem.W.cmpIn_lt (A := X.A.in1) hr2 (alike_pairs (p :: ps)) (by
      have := dep_pairs (p :: ps)
      show X.A.units + 1 + _ < _
      omega), fun v s' hP m => ?_⟩
    obtain ⟨h', tk, rfl, hk'⟩ := PySem.W.moved_old e rfl m
    have e1 : its.toArray.size - 1 = (ps.map pairD).length := by rw [List.size_toArray, List.length_map]; omega
    rw [e1] at hP
    have e2 := (PySem.W.argBest_fold PySem.W.dataLt PyData.none (pairD p) (ps.map pairD) (ps.map pairD).length (Nat.le_refl _)).2
    rw [List.take_length] at e2
    obtain ⟨k, hk0⟩ : ∃ k, argBest (fun i j => PySem.W.dataLt ((pairD p :: ps.map pairD).getD i .none) ((pairD p :: ps.map pairD).getD j .none)) (ps.map pairD).length = k := ⟨_, rfl⟩
    rw [hk0] at e2
    have hP : its.toArray[argBest (fun i j => PySem.W.dataLt ((pairD p :: ps.map pairD).getD i .none) ((pairD p :: ps.map pairD).getD j .none)) (ps.map pairD).length]? = some v := hP
    rw [hk0] at hP
    have hv : its[k]? = some v := by simpa using hP
    obtain ⟨y, hy⟩ : ∃ y : V, xs[k]? = some y := by
      cases e : xs[k]? with
      | some y => exact ⟨y, rfl⟩
      | none =>
        have z := rv.none_of e
        rw [z] at hv
        cases hv
    obtain ⟨v', hv', ryv⟩ := rv.get hy
    obtain rfl : v' = v := Option.some.inj (hv'.symm.trans hv)
    obtain ⟨t, pk, rfl, hpk, ht⟩ := hp.at hy
    obtain ⟨mm, hm, em, hmin⟩ := min_pair ps p
    have e3 : (pairD p :: ps.map pairD).getD k .none = pairD pk := by
      rw [List.getD_eq_getElem?_getD, ← List.map_cons, List.getElem?_map, hpk]; rfl
    rw [e3] at e2
    have e4 : pairD pk = pairD mm := e2.trans em
    have e5 : pk = mm := by
      unfold pairD at e4
      injection e4 with e4
      obtain ⟨a1, a2⟩ := List.cons.inj e4
      obtain ⟨a2, _⟩ := List.cons.inj a2
      exact Prod.ext (PyData.int.inj a1) (PyData.int.inj a2)
    subst e5
    exact ⟨.ref t, H, I.kept hk', ryv, q t pk hm hmin ht⟩

/-! ### a machine's numbers, told at once; what a law is -/
structure Num (o l g : Int) : Prop where
  no : 0 ≤ o ∧ o ≤ 1000000000
  nl : 0 ≤ l ∧ l ≤ 1000000000
  ng : 1 ≤ g ∧ g ≤ 1000000000
  np : 0 < 2 * o + l
theorem NumAt.num {H : Hp} {t : Addr} {o l g : Int} (n : NumAt H t o l g) : Num o l g := ⟨⟨n.o0, n.o9⟩, ⟨n.l0, n.l9⟩, ⟨n.g1, n.g9⟩, n.pos⟩
def spLaw (K : PySem.W.Frag) : Sp := fun vs H Q _ => ∃ (b : Addr) (ns : List Int), vs = [.ref b] ∧ SqL K H b (ns.map V.int) ∧ ns.length ≤ 63 ∧ ∀ H', Q (.bl true) H'
theorem MachAt.upd {C m R : Addr} {H : Hp} {o l g : Int} {xs : List V} {u : HO} (h : MachAt C H m o l g) (e : H R = some (.lst xs)) : MachAt C (L2.upd H R u) m o l g :=
  let ⟨dx, z⟩ := h; ⟨dx, (upd_ne (ne_of z e (by intro y; cases y))).trans z⟩

/-! ### the slower tree: who is told when -/
def ltP (p q : Int × Int) : Bool := if p.1 = q.1 then decide (p.2 < q.2) else decide (p.1 < q.1)
theorem encP : HQ.Enc pairD ltP where
  ord := ⟨fun {a b} h => by
      unfold ltP at *
      by_cases c : a.1 = b.1
      · rw [if_pos c] at h
        rw [if_pos c.symm]
        have := of_decide_eq_true h
        exact decide_eq_false (by omega)
      · rw [if_neg c] at h
        rw [if_neg (Ne.symm c)]
        have := of_decide_eq_true h
        exact decide_eq_false (by omega), fun {a b c} h1 h2 => by
      unfold ltP at *
      have k : ∀ {p q : Int × Int}, (if p.1 = q.1 then decide (p.2 < q.2) else decide (p.1 < q.1)) = false ↔ q.1 < p.1 ∨ (p.1 = q.1 ∧ q.2 ≤ p.2) := fun {p q} => by
        by_cases e : p.1 = q.1
        · rw [if_pos e, decide_eq_false_iff_not]; omega
        · rw [if_neg e, decide_eq_false_iff_not]; omega
      rw [k] at *
      omega⟩
  lt_eq := fun a b => lt_pair
  alike := alike_pair
  nn := fun a => by intro z; cases z
  dep := fun a => by show 1 ≤ 60; decide
/-- items that are new pairs -/
def Refs (H : Hp) (ps : List (V × (Int × Int))) : Prop := ∀ p, p ∈ ps → ∃ t : Addr, p.1 = .ref t ∧ H t = some (.tup [.int p.2.1, .int p.2.2])
theorem Refs.keep {H H' : Hp} {ps : List (V × (Int × Int))} (h : Refs H ps) (s : Same H H') : Refs H' ps := fun p hp => let ⟨t, e, z⟩ := h p hp; ⟨t, e, s _ _ z⟩
theorem Refs.upd {H : Hp} {L : Addr} {zs : List V} {o : HO} {ps : List (V × (Int × Int))} (h : Refs H ps) (e : H L = some (.lst zs)) : Refs (L2.upd H L o) ps := fun p hp => let ⟨t, e1, z⟩ := h p hp; ⟨t, e1, (upd_ne (fun y => by rw [y, e] at z; cases z)).trans z⟩
theorem Refs.perm {H : Hp} {ps qs : List (V × (Int × Int))} (h : Refs H ps) (hp : ∀ p, p ∈ qs → p ∈ ps) : Refs H qs := fun p hm => h p (hp p hm)
theorem Refs.snoc {H : Hp} {ps : List (V × (Int × Int))} {t : Addr} {k : Int × Int} (h : Refs H ps) (e : H t = some (.tup [.int k.1, .int k.2])) : Refs H (ps ++ [(.ref t, k)]) := fun p hp => by
  rcases List.mem_append.mp hp with hp | hp
  · exact h p hp
  · rw [List.mem_singleton] at hp; subst hp; exact ⟨t, rfl, e⟩
theorem Refs.hp {K : PySem.W.Frag} {H : Hp} {a : Addr} {zs : List V} {ps : List (V × (Int × Int))} (h : Refs H ps) (e : H a = some (.lst zs)) : HQ.HpAt K H a pairD ps := fun xs p hp => by
  obtain ⟨t, e1, z⟩ := (h.upd (o := .lst xs) e) p hp
  rw [e1]
  exact .tup (SqT.of z) (.cons (.int _) (.cons (.int _) .nil))
def keysOf (cs : List Int) : List (Int × Int) := cs.zipIdx.map fun p => (p.1, (p.2 : Int))
theorem keys_at {cs : List Int} {i : Nat} : (keysOf cs)[i]? = (cs[i]?).map fun c => (c, (i : Int)) := by
  unfold keysOf
  rw [List.getElem?_map, List.getElem?_zipIdx]
  cases cs[i]? <;> simp
theorem keys_len {cs : List Int} : (keysOf cs).length = cs.length := by unfold keysOf; rw [List.length_map, List.length_zipIdx]
theorem keys_snoc {cs : List Int} {c : Int} : keysOf (cs ++ [c]) = keysOf cs ++ [(c, (cs.length : Int))] := by
  unfold keysOf
  rw [List.zipIdx_append, List.map_append]
  simp
theorem keys_set {cs : List Int} {i : Nat} {c : Int} : keysOf (cs.set i c) = (keysOf cs).set i (c, (i : Int)) := by
  apply List.ext_getElem?
  intro j
  rw [keys_at]
  by_cases e : i = j
  · subst e
    by_cases hi : i < cs.length
    · rw [List.getElem?_set_self hi, List.getElem?_set_self (by rw [keys_len]; exact hi)]; rfl
    · rw [List.getElem?_eq_none (by rw [List.length_set]; omega), List.getElem?_eq_none (by rw [List.length_set, keys_len]; omega)]; rfl
  · rw [List.getElem?_set_ne e, List.getElem?_set_ne e, keys_at]
theorem perm_out {α : Type} {a : α} : ∀ {l : List α} {i : Nat}, l[i]? = some a → l.Perm (a :: l.eraseIdx i) ∧ ∀ b, (l.set i b).Perm (b :: l.eraseIdx i)
  | [], _, h => by simp at h
  | x :: l, 0, h => by
    obtain rfl : x = a := by simpa using h
    exact ⟨List.Perm.refl _, fun b => List.Perm.refl _⟩
  | x :: l, i + 1, h => by
    obtain ⟨h1, h2⟩ := perm_out (l := l) (i := i) (by simpa using h)
    rw [List.eraseIdx_cons_succ]
    exact ⟨(List.Perm.cons x h1).trans (List.Perm.swap _ _ _), fun b => by rw [List.set_cons_succ]; exact (List.Perm.cons x (h2 b)).trans (List.Perm.swap _ _ _)⟩
theorem perm_set {α : Type} {a b : α} {l rest : List α} {i : Nat} (h : l[i]? = some a) (hp : (a :: rest).Perm l) : (b :: rest).Perm (l.set i b) := by
  obtain ⟨h1, h2⟩ := perm_out h
  have h3 : rest.Perm (l.eraseIdx i) := List.Perm.cons_inv (hp.trans h1)
  exact (List.Perm.cons b h3).trans (h2 b).symm
/-- j hands have been told, at ks; the next sendings of all come at cs -/
inductive SlowR (L G : Int) : Nat → List Int → List Int → Prop
  | zero : SlowR L G 0 [L] []
  | step {j : Nat} {cs ks : List Int} {i : Nat} {c : Int} (h : SlowR L G j cs ks) (hi : cs[i]? = some c) (hm : ∀ x, x ∈ cs → c ≤ x) (hf : ∀ k, k < i → cs[k]? ≠ some c) : SlowR L G (j + 1) (cs.set i (c + G) ++ [c + L]) (ks ++ [c])
theorem SlowR.len {L G : Int} {j : Nat} {cs ks : List Int} (h : SlowR L G j cs ks) : cs.length = j + 1 ∧ ks.length = j := by
  induction h with
  | zero => exact ⟨rfl, rfl⟩
  | step h hi hm hf ih =>
    rw [List.length_append, List.length_append, List.length_set, List.length_singleton]
    exact ⟨by omega, by rw [List.length_singleton]; omega⟩
theorem SlowR.uniq {L G : Int} {j : Nat} : ∀ {cs ks cs' ks' : List Int}, SlowR L G j cs ks → SlowR L G j cs' ks' → cs = cs' ∧ ks = ks' := by
  induction j with
  | zero =>
    intro cs ks cs' ks' h h'
    cases h; cases h'; exact ⟨rfl, rfl⟩
  | succ j ih =>
    intro cs ks cs' ks' h h'
    cases h with
    | step h hi hm hf =>
      rename_i cs0 ks0 i c
      cases h' with
      | step h2 hi2 hm2 hf2 =>
        rename_i cs1 ks1 i2 c2
        obtain ⟨rfl, rfl⟩ := ih h h2
        have e1 : c = c2 := by
          have := hm c2 (List.mem_iff_getElem?.mpr ⟨_, hi2⟩)
          have := hm2 c (List.mem_iff_getElem?.mpr ⟨_, hi⟩)
          omega
        subst e1
        have e2 : i = i2 := by
          rcases Nat.lt_trichotomy i i2 with z | z | z
          · exact absurd hi (hf2 i z)
          · exact z
          · exact absurd hi2 (hf i2 z)
        subst e2
        exact ⟨rfl, rfl⟩
theorem SlowR.back {L G : Int} {j : Nat} {cs ks : List Int} (h : SlowR L G (j + 1) cs ks) : ∃ cs' ks' c, SlowR L G j cs' ks' ∧ ks = ks' ++ [c] := by
  cases h with
  | step h hi hm hf => exact ⟨_, _, _, h, rfl⟩
theorem SlowR.prefix {L G : Int} {j : Nat} : ∀ {m : Nat} {cs ks cs' ks' : List Int}, SlowR L G j cs ks → SlowR L G (j + m) cs' ks' → ks = ks'.take j
  | 0, cs, ks, cs', ks', h, h' => by
    obtain ⟨_, rfl⟩ := h.uniq h'
    rw [List.take_of_length_le (by have := h.len.2; omega)]
  | m + 1, cs, ks, cs', ks', h, h' => by
    obtain ⟨cs2, ks2, c, h2, rfl⟩ := SlowR.back (j := j + m) h'
    rw [h.prefix h2, List.take_append_of_le_length (by have := h2.len.2; omega)]
def posP (x : Int) : Int := if x > 0 then x else 0
/-- how many numbers can be added -/
def GS (o : Int) (ks : List Int) (t : Int) : Int := t + 1 + (ks.map fun k => posP (t - k - o)).sum
theorem posP_nn (x : Int) : 0 ≤ posP x := by unfold posP; split <;> omega
theorem posP_mono {x y : Int} (h : x ≤ y) : posP x ≤ posP y := by unfold posP; split <;> split <;> omega
theorem posP_up (x : Int) : posP x ≤ posP (x + 1) ∧ posP (x + 1) ≤ posP x + 1 := by unfold posP; split <;> split <;> omega
theorem sumP_nn (o t : Int) : ∀ ks : List Int, 0 ≤ (ks.map fun k => posP (t - k - o)).sum
  | [] => Int.le_refl _
  | k :: ks => by
    rw [List.map_cons, List.sum_cons]
    have := posP_nn (t - k - o)
    have := sumP_nn o t ks
    omega
theorem GS_mono {o s t : Int} (h : s ≤ t) : ∀ ks : List Int, GS o ks s ≤ GS o ks t := fun ks => by
  unfold GS
  have : (ks.map fun k => posP (s - k - o)).sum ≤ (ks.map fun k => posP (t - k - o)).sum := by
    induction ks with
    | nil => exact Int.le_refl _
    | cons k ks ih =>
      rw [List.map_cons, List.map_cons, List.sum_cons, List.sum_cons]
      have := posP_mono (show s - k - o ≤ t - k - o by omega)
      omega
  omega
theorem GS_up {o t : Int} (ks : List Int) : GS o ks t + 1 ≤ GS o ks (t + 1) ∧ GS o ks (t + 1) ≤ GS o ks t + 1 + ks.length := by
  unfold GS
  have : (ks.map fun k => posP (t - k - o)).sum ≤ (ks.map fun k => posP (t + 1 - k - o)).sum ∧ (ks.map fun k => posP (t + 1 - k - o)).sum ≤ (ks.map fun k => posP (t - k - o)).sum + ks.length := by
    induction ks with
    | nil => exact ⟨Int.le_refl _, Int.le_refl _⟩
    | cons k ks ih =>
      rw [List.map_cons, List.map_cons, List.sum_cons, List.sum_cons, List.length_cons]
      have := posP_up (t - k - o)
      rw [show t - k - o + 1 = t + 1 - k - o by omega] at this
      omega
  omega
theorem GS_snoc {o t c : Int} (ks : List Int) : GS o (ks ++ [c]) t = GS o ks t + posP (t - c - o) := by
  unfold GS
  have : ∀ l : List Int, (l ++ [posP (t - c - o)]).sum = l.sum + posP (t - c - o) := fun l => by
    induction l with
    | nil => simp
    | cons x l ih => rw [List.cons_append, List.sum_cons, List.sum_cons, ih]; omega
  rw [List.map_append, List.map_singleton, this]
  omega
theorem GS_ge {o t : Int} (ks : List Int) : t + 1 ≤ GS o ks t := by
  unfold GS
  have := sumP_nn o t ks
  omega

/-! ### the slower tree, read -/
def slL (o l : Int) : Int := 2 * o + l + 1
def slG (o g : Int) : Int := if o + 1 > g then o + 1 else g
def spSlow (M : Addr) : Sp := fun vs H Q _ => ∃ (m : Addr) (n : Nat) (o l g : Int), vs = [.ref m, .int n] ∧ MachAt M H m o l g ∧ Num o l g ∧ 1 ≤ n ∧ n ≤ 40 ∧
  ∀ (p : Addr) (xs : List V) (qs : List (Int × Int)) (cs : List Int) H', SlowR (slL o l) (slG o g) (n - 1) cs (qs.map Prod.fst) → Same H H' → H' p = some (.lst xs) → PairsAt H' xs qs → Q (.ref p) H'
section
variable {P : Program} {w : World} {K : PySem.W.Frag} {mg : Str → Option Value} {base : Heap} {a : Adr}
theorem ok_slow_tree (T : Txt K mg base a) : FnOk P w K mg base CX0 1 a.a_slow_tree a.d_slow_tree ["machine", "n"] (spSlow a.c_Machine) := by
  refine T.F_slow_tree.ok sc_slow_tree (fun vs H Q E h => ?_) (fun cdv A0 outer s H vs Q E hr h => ?_)
  · obtain ⟨m, n, o, l, g, rfl, _⟩ := h
    rfl
  · obtain ⟨m, n, o, l, g, rfl, ⟨dx, hm⟩, N, n1, n40, k⟩ := h
    refine ⟨_, (pss_cons (ps_set (i := 2) sc_slow_tree.nd rfl (Or.inl rfl) (pe_op op_add (pe_fld (pv 0) rfl) pe_int))
 (pss_cons (ps_set (i := 3) sc_slow_tree.nd rfl (Or.inl rfl) (pe_callB (call_max2 rfl) (by rfl) T.n_max (by decide +kernel) (pa_cons (pe_fld (pv 0) rfl) (pa_cons (pe_op op_add (pe_fld (pv 0) rfl) pe_int) pa_nil))))
 (pss_cons (ps_set (i := 4) sc_slow_tree.nd rfl (Or.inl rfl) (pe_lst (pa_cons (pe_tup (pa_cons (pv 2) (pa_cons pe_int pa_nil))) pa_nil)))
 (pss_cons (ps_set (i := 5) sc_slow_tree.nd rfl (Or.inl rfl) (pe_lst pa_nil))
 (pss_cons (ps_while PassesOwn.never (pt_cmpR op_lt (pe_callB call_len_seq (by rfl) T.n_len (by decide +kernel) (pa_cons (pv 5) pa_nil)) (pe_op op_sub (pv 1) pe_int) (nomark _)) (pss_cons (ps_asg (pe_callBfun (HQ.cr_pop encP hr.units) (by rfl) T.g_heappop (pa_cons (pv 4) pa_nil)) (pg_tup (by rfl) (pgs_cons (pg_name (i := 6) sc_slow_tree.nd rfl (Or.inl rfl)) (pgs_cons (pg_name (i := 7) sc_slow_tree.nd rfl (Or.inl rfl)) pgs_nil))))
 (pss_cons (ps_expr (pe_bm PySem.F.plainAttrs_list PySem.F.slot_list_append PySem.F.type_list_append mt_append (pv 5) (pa_cons (pe_tup (pa_cons (pv 6) (pa_cons (pv 7) pa_nil))) pa_nil)))
 (pss_cons (ps_expr (pe_callBfun (HQ.cr_push encP hr.units) (by rfl) T.g_heappush (pa_cons (pv 4) (pa_cons (pe_tup (pa_cons (pe_op op_add (pv 6) (pv 3)) (pa_cons (pv 7) pa_nil))) pa_nil))))
 (pss_one (ps_expr (pe_callBfun (HQ.cr_push encP hr.units) (by rfl) T.g_heappush (pa_cons (pv 4) (pa_cons (pe_tup (pa_cons (pe_op op_add (pv 6) (pv 2)) (pa_cons (pe_callB call_len_seq (by rfl) T.n_len (by decide +kernel) (pa_cons (pv 5) pa_nil)) pa_nil))) pa_nil)))))))))
 (pss_one (ps_ret (pv 5)))))))), ?_⟩
    repeat walk_at "rd"
    have eg : (if o + 1 > g then o + 1 else g) = slG o g := rfl
    have el : 2 * o + l + 1 = slL o l := rfl
    rw [eg, el]
    refine new_at (Nat.le_of_ble_eq_true rfl) (fun t0 H1 n0 s1 e1 => ?_)
    repeat walk_at "rd"
    refine new_at (Nat.le_of_ble_eq_true rfl) (fun W H2 nW s2 eW => ?_)
    have e1 := s2 _ _ e1
    have nWH := s1.free nW
    have s2 := s1.trans s2
    repeat walk_at "rd"
    refine new_at (Nat.zero_le _) (fun D H3 nD s3 eD => ?_)
    have nDH := s2.free nD
    have hWD : W ≠ D := ne_of_none eW nD
    have eW := s3 _ _ eW
    have e1 := s3 _ _ e1
    have s3 := s2.trans s3
    clear s1 s2 nW nD n0
    repeat walk_at "rd"
    refine while_by (fun σ H' => ∃ (v6 v7 : Option V) (j : Nat) (cs : List Int) (ps : List (V × (Int × Int))) (xs : List V) (qs : List (Int × Int)), σ = [some (.ref m), some (.int n), some (.int (slL o l)), some (.int (slG o g)), some (.ref W), some (.ref D), v6, v7] ∧ Same H H' ∧ SlowR (slL o l) (slG o g) j cs (qs.map Prod.fst) ∧ j ≤ n - 1 ∧
      H' W = some (.lst (ps.map Prod.fst)) ∧ Refs H' ps ∧ (ps.map Prod.snd).Perm (keysOf cs) ∧ HQ.Heaped ltP (HQ.fk ps) ps.length ∧ H' D = some (.lst xs) ∧ PairsAt H' xs qs)
      (fun σ H' => match H' D with | some (.lst xs) => n - xs.length | _ => 0) ⟨_, _, 0, [slL o l], [(.ref t0, (slL o l, 0))], [], [], rfl, s3, .zero, Nat.zero_le _, eW, (fun p hp => by rw [List.mem_singleton] at hp; subst hp; exact ⟨t0, rfl, e1⟩), List.Perm.refl _, (fun i i0 hi => absurd hi (by simp; omega)), eD, trivial⟩ ?_ ?_
    · clear s3 eW eD e1
      rintro σ H4 ⟨v6, v7, j, cs, ps, xs, qs, rfl, s4, hR, hj, eW, hRe, hP, hH, eD, hA⟩
      have hlen := hR.len
      have hxl : xs.length = j := by rw [hA.len, ← List.length_map (f := Prod.fst)]; exact hlen.2
      have hpl : ps.length = j + 1 := by rw [← List.length_map (f := Prod.snd), hP.length_eq, keys_len]; exact hlen.1
      repeat walk_at "rd"
      rw [hxl]
      refine ite_d (fun hc => ?_) (fun hc => ?_)
      · repeat walk_at "rd"
        refine ⟨W, ps, rfl, eW, hRe.hp eW, hH, by omega, by omega, fun p rest hperm hmin hH2 => ?_⟩
        obtain ⟨t, ep, et⟩ := hRe p (hperm.mem_iff.mp (List.mem_cons_self ..))
        obtain ⟨pv, c, sd⟩ := p
        obtain rfl : pv = .ref t := ep
        have et : H4 t = some (.tup [.int c, .int sd]) := et
        have hkp : ((c, sd) :: rest.map Prod.snd).Perm (keysOf cs) := (hperm.map Prod.snd).trans hP
        obtain ⟨i, hi⟩ := List.mem_iff_getElem?.mp (hkp.mem_iff.mp (List.mem_cons_self ..))
        have hci : cs[i]? = some c ∧ sd = i := by
          rw [keys_at] at hi
          cases e : cs[i]? with
          | none => rw [e] at hi; cases hi
          | some c' =>
            rw [e] at hi
            have := Option.some.inj hi
            exact ⟨congrArg some (Prod.mk.inj this).1, (Prod.mk.inj this).2.symm⟩
        obtain ⟨hci, rfl⟩ := hci
        have hle : ∀ (k : Nat) x, cs[k]? = some x → ltP (x, (k : Int)) (c, (i : Int)) = false := fun k x hx => by
          have hm : (x, (k : Int)) ∈ ps.map Prod.snd := hP.mem_iff.mpr (List.mem_iff_getElem?.mpr ⟨k, by rw [keys_at, hx]; rfl⟩)
          obtain ⟨q, hq, eq⟩ := List.mem_map.mp hm
          have := hmin q hq
          rwa [eq] at this
        have hle1 : ∀ x, x ∈ cs → c ≤ x := fun x hx => by
          obtain ⟨k, hk⟩ := List.mem_iff_getElem?.mp hx
          have h := hle k x hk
          unfold ltP at h
          dsimp only at h
          split at h
          · omega
          · have := of_decide_eq_false h; omega
        have hle2 : ∀ k, k < i → cs[k]? ≠ some c := fun k hk e => by
          have h := hle k c e
          unfold ltP at h
          dsimp only at h
          rw [if_pos rfl] at h
          have := of_decide_eq_false h
          omega
        have hR2 := SlowR.step hR hci hle1 hle2
        have hil : i < cs.length := (List.getElem?_eq_some_iff.mp hci).1
        have hrl : rest.length = j := by have := hperm.length_eq; rw [List.length_cons] at this; omega
        have s5 := s4.over (o := HO.lst (rest.map Prod.fst)) nWH eW
        have hR5 := (hRe.perm (qs := rest) fun q hq => hperm.mem_iff.mp (List.mem_cons_of_mem _ hq)).upd (o := HO.lst (rest.map Prod.fst)) eW
        have et5 : L2.upd H4 W (HO.lst (rest.map Prod.fst)) t = some (.tup [.int c, .int i]) := (upd_ne (fun z => by rw [z, eW] at et; cases et)).trans et
        have eD5 : L2.upd H4 W (HO.lst (rest.map Prod.fst)) D = some (.lst xs) := (upd_ne hWD.symm).trans eD
        have hA5 := hA.upd (o := HO.lst (rest.map Prod.fst)) eW
        have eW5 : L2.upd H4 W (HO.lst (rest.map Prod.fst)) W = some (.lst (rest.map Prod.fst)) := upd_same
        generalize L2.upd H4 W (HO.lst (rest.map Prod.fst)) = H5 at s5 hR5 et5 eD5 hA5 eW5 ⊢
        repeat walk_at "rd"
        refine ⟨.inl ⟨rfl, _, SqL.of eD5⟩, ?_⟩
        repeat walk_at "rd"
        refine new_at (Nat.le_of_ble_eq_true rfl) (fun u1 H6 n6 s6 e6 => ?_)
        have eD6 := s6 _ _ eD5
        have eW6 := s6 _ _ eW5
        repeat walk_at "rd"
        refine r_app eD6 (small1000 (by omega)) ?_
        have s7 := (s5.trans s6).over (o := HO.lst (xs ++ [.ref u1])) nDH eD6
        have hR7 := (hR5.keep s6).upd (o := HO.lst (xs ++ [.ref u1])) eD6
        have hA7 := ((hA5.keep s6).snoc (p := (c, (i : Int))) e6).upd (o := HO.lst (xs ++ [.ref u1])) eD6
        have eD7 : L2.upd H6 D (HO.lst (xs ++ [.ref u1])) D = some (.lst (xs ++ [.ref u1])) := upd_same
        have eW7 : L2.upd H6 D (HO.lst (xs ++ [.ref u1])) W = some (.lst (rest.map Prod.fst)) := (upd_ne hWD).trans eW6
        generalize L2.upd H6 D (HO.lst (xs ++ [.ref u1])) = H7 at s7 hR7 hA7 eD7 eW7 ⊢
        repeat walk_at "rd"
        refine new_at (Nat.le_of_ble_eq_true rfl) (fun u2 H8 n8 s8 e8 => ?_)
        have eD8 := s8 _ _ eD7
        have eW8 := s8 _ _ eW7
        have hA8 := hA7.keep s8
        have hR8 := (hR7.keep s8).snoc (k := (c + slG o g, (i : Int))) e8
        have s8 := s7.trans s8
        repeat walk_at "rd"
        refine ⟨W, .ref u2, (c + slG o g, (i : Int)), rest, rfl, eW8, hR8.hp eW8, hH2, by omega, fun p1 hp1 hh1 => ?_⟩
        have hp1l : p1.length = j + 1 := by rw [hp1.length_eq, List.length_append, List.length_singleton]; omega
        have s9 := s8.over (o := HO.lst (p1.map Prod.fst)) nWH eW8
        have hR9 := (hR8.perm (qs := p1) fun q hq => hp1.mem_iff.mp hq).upd (o := HO.lst (p1.map Prod.fst)) eW8
        have hA9 := hA8.upd (o := HO.lst (p1.map Prod.fst)) eW8
        have eW9 : L2.upd H8 W (HO.lst (p1.map Prod.fst)) W = some (.lst (p1.map Prod.fst)) := upd_same
        have eD9 : L2.upd H8 W (HO.lst (p1.map Prod.fst)) D = some (.lst (xs ++ [.ref u1])) := (upd_ne hWD.symm).trans eD8
        generalize L2.upd H8 W (HO.lst (p1.map Prod.fst)) = H9 at s9 hR9 hA9 eW9 eD9 ⊢
        repeat walk_at "rd"
        have hl1 : ((xs ++ [V.ref u1]).length : Int) = ((j + 1 : Nat) : Int) := by rw [List.length_append, List.length_singleton, hxl]
        rw [hl1]
        refine new_at (Nat.le_of_ble_eq_true rfl) (fun u3 H10 n10 s10 e10 => ?_)
        have eD10 := s10 _ _ eD9
        have eW10 := s10 _ _ eW9
        have hA10 := hA9.keep s10
        have hR10 := (hR9.keep s10).snoc (k := (c + slL o l, ((j + 1 : Nat) : Int))) e10
        have s10 := s9.trans s10
        repeat walk_at "rd"
        refine ⟨W, .ref u3, (c + slL o l, ((j + 1 : Nat) : Int)), p1, rfl, eW10, hR10.hp eW10, hh1, by omega, fun p2 hp2 hh2 => ?_⟩
        have hP2 : (p2.map Prod.snd).Perm (keysOf (cs.set i (c + slG o g) ++ [c + slL o l])) := by
          rw [keys_snoc, List.length_set, hlen.1, keys_set]
          refine (hp2.map Prod.snd).trans ?_
          rw [List.map_append]
          refine List.Perm.append_right _ ((hp1.map Prod.snd).trans ?_)
          rw [List.map_append]
          exact List.perm_append_comm.trans (perm_set (by rw [keys_at, hci]; rfl) hkp)
        refine ⟨⟨_, _, j + 1, _, p2, xs ++ [.ref u1], qs ++ [(c, (i : Int))], rfl, s10.over nWH eW10, by rw [List.map_append]; exact hR2, by omega, upd_same, (hR10.perm fun q hq => hp2.mem_iff.mp hq).upd eW10, hP2, hh2, (upd_ne hWD.symm).trans eD10, hA10.upd eW10⟩, ?_⟩
        rw [show L2.upd H10 W (HO.lst (p2.map Prod.fst)) D = some (.lst (xs ++ [.ref u1])) from (upd_ne hWD.symm).trans eD10, eD]
        dsimp only
        rw [List.length_append, List.length_singleton]
        omega
      · repeat walk_at "rd"
        obtain rfl : j = n - 1 := by omega
        exact k D xs qs cs _ hR s4 eD hA
    · rintro σ H' Q1 Q2 hq ⟨y1, e1, p, ys, e2, hs, y2, e3, i, j, r1, r2, i2, j2, r3, r4, b, r5, q⟩
      exact ⟨y1, e1, p, ys, e2, hs, y2, e3, i, j, r1, r2, i2, j2, r3, r4, b, r5, hq _ _ q⟩
end

/-! ### the least place where a test holds -/
def spLeastW : V → V → (V → Hp → VK → Prop) → Hp → VK → Prop := fun x1 x2 tl H Q => ∃ (lo hi : Int) (p : Int → Bool), x1 = .int lo ∧ x2 = .int hi ∧ lo ≤ hi ∧ (∀ x y, lo ≤ x → x ≤ y → y < hi → p x = true → p y = true) ∧
  (∀ m H' Q', lo ≤ m → m < hi → Same H H' → (∀ H'', Same H' H'' → Q' (.bl (p m)) H'') → tl (.int m) H' Q') ∧
  ∀ m H', lo ≤ m → m ≤ hi → (∀ x, lo ≤ x → x < m → p x = false) → (m < hi → p m = true) → Same H H' → Q (.int m) H'
theorem r_while {c : TT} {t : TS} {D : Ends} {σ : St} {H : Hp} (h : tWhile c t D σ H) : tWhile c t D σ H := h
section
variable {K : PySem.W.Frag} {mg : Str → Option Value} {base : Heap} {a : Adr}
theorem gives_least_where {X : Cx} {q : Str} {g : Addr} (T : Txt K mg base a) : ∀ cdv, Gives1 X ["low", "high", "holds", "middle"] "least_where" (defScope s_least_where) g cdv (defBody s_least_where) "holds" q spLeastW := by
  intro cdv f c' s H Q Eg tl x1 x2 hact hc h
  obtain ⟨lo, hi, p, rfl, rfl, hle, mono, htl, k⟩ := h
  refine ⟨_, (pss_cons (ps_while PassesOwn.never (pt_cmpR op_lt (pv 0) (pv 1) (nomark _)) (pss_cons (ps_set (i := 3) sc_least_where.nd rfl (Or.inl rfl) (pe_op op_fdivW (pe_op op_add (pv 0) (pv 1)) pe_int))
 (pss_one (ps_if (pt_val (hact _ _ _ _ (pv 3) rfl)) (pss_one (ps_set (i := 1) sc_least_where.nd rfl (Or.inl rfl) (pv 3)))
 (pss_one (ps_set (i := 0) sc_least_where.nd rfl (Or.inl rfl) (pe_op op_add (pv 3) pe_int)))))))
 (pss_one (ps_ret (pv 1)))), ?_⟩
  repeat walk_at "rd"
  refine while_by (fun σ H' => ∃ (l u : Int) (v : Option V), σ = [some (.int l), some (.int u), some (.ref f), v] ∧ Same H H' ∧ lo ≤ l ∧ l ≤ u ∧ u ≤ hi ∧ (∀ x, lo ≤ x → x < l → p x = false) ∧ (u < hi → p u = true))
    (fun σ _ => match σ with | [some (.int l), some (.int u), _, _] => (u - l).toNat | _ => 0) ⟨lo, hi, _, rfl, Same.refl H, Int.le_refl _, hle, Int.le_refl _, fun x h1 h2 => absurd h1 (by omega), fun z => absurd z (by omega)⟩ ?_ ?_
  · rintro σ H' ⟨l, u, v, rfl, s1, h1, h2, h3, h4, h5⟩
    repeat walk_at "rd"
    refine ite_d (fun hc1 => ?_) (fun hc1 => ?_)
    · repeat walk_at "rd"
      have e1 : l ≤ (l + u) / 2 := by omega
      have e2 : (l + u) / 2 < u := by omega
      generalize (l + u) / 2 = m at e1 e2 ⊢
      refine ⟨rfl, ?_⟩
      repeat walk_at "rd"
      refine ⟨s1 _ _ hc, htl m _ _ (by omega) (by omega) s1 fun H'' s2 => ?_⟩
      repeat walk_at "rd"
      have s3 := s1.trans s2
      cases hp : p m with
      | true =>
        refine iteT ?_
        repeat walk_at "rd"
        exact ⟨⟨l, m, _, rfl, s3, h1, e1, by omega, h4, fun _ => hp⟩, by show (m - l).toNat < (u - l).toNat; omega⟩
      | false =>
        refine iteF ?_
        repeat walk_at "rd"
        refine ⟨⟨m + 1, u, _, rfl, s3, by omega, by omega, h3, fun x hx1 hx2 => ?_, h5⟩, by show (u - (m + 1)).toNat < (u - l).toNat; omega⟩
        cases hpx : p x with
        | false => rfl
        | true =>
          have := mono x m hx1 (by omega) (by omega) hpx
          rw [hp] at this
          cases this
    · repeat walk_at "rd"
      obtain rfl : l = u := by omega
      exact k l _ h1 h3 h4 h5 s1
  · rintro σ H' Q1 Q2 hq ⟨y1, e1, y2, e2, i, j, r1, r2, b, r3, q⟩
    exact ⟨y1, e1, y2, e2, i, j, r1, r2, b, r3, hq _ _ q⟩
end

/-! ### sums by the slower tree -/
theorem first_min : ∀ {cs : List Int}, cs ≠ [] → ∃ (i : Nat) (c : Int), cs[i]? = some c ∧ (∀ x, x ∈ cs → c ≤ x) ∧ ∀ k, k < i → cs[k]? ≠ some c
  | [], h => absurd rfl h
  | x :: cs, _ => by
    cases cs with
    | nil => exact ⟨0, x, rfl, fun y hy => by rw [List.mem_singleton] at hy; omega, fun k hk => absurd hk (Nat.not_lt_zero _)⟩
    | cons y cs =>
      obtain ⟨i, c, h1, h2, h3⟩ := first_min (cs := y :: cs) (by intro z; cases z)
      by_cases c0 : x ≤ c
      · refine ⟨0, x, rfl, fun z hz => ?_, fun k hk => absurd hk (Nat.not_lt_zero _)⟩
        rcases List.mem_cons.mp hz with rfl | hz
        · exact Int.le_refl _
        · exact Int.le_trans c0 (h2 z hz)
      · refine ⟨i + 1, c, by simpa using h1, fun z hz => ?_, fun k hk => ?_⟩
        · rcases List.mem_cons.mp hz with rfl | hz
          · omega
          · exact h2 z hz
        · cases k with
          | zero => intro e; have : x = c := by simpa using e
                    omega
          | succ k => rw [List.getElem?_cons_succ]; exact h3 k (by omega)
theorem SlowR.ex (L G : Int) : ∀ j : Nat, ∃ cs ks, SlowR L G j cs ks
  | 0 => ⟨_, _, .zero⟩
  | j + 1 => by
    obtain ⟨cs, ks, h⟩ := SlowR.ex L G j
    obtain ⟨i, c, h1, h2, h3⟩ := first_min (cs := cs) (fun z => by have := h.len.1; rw [z] at this; cases this)
    exact ⟨_, _, .step h h1 h2 h3⟩
theorem r_lam1 {TT : V → V → (V → Hp → VK → Prop) → Hp → VK → Prop} {t1 t2 t : TE} {σ : St} {H : Hp} {Q : VK} (h : t1 σ H fun x1 H1 => t2 σ H1 fun x2 H2 => TbsOk H2 ∧ ∀ H3, Same H2 H3 → TT x1 x2 (fun x H' Q' => t (σ ++ [some x]) H' Q') H3 Q) : tLam1 TT t1 t2 t σ H Q := h
def spCheckCount : Sp := fun vs H Q _ => ∃ (t lo hi : Int), vs = [.int t, .int lo, .int hi] ∧ lo ≤ t ∧ t ≤ hi ∧ Q .non H
def spCheckTime : Sp := fun vs H Q _ => ∃ (t hi : Int), vs = [.int t, .int hi] ∧ 0 ≤ t ∧ t ≤ hi ∧ Q .non H
def spGreatest (M : Addr) : Sp := fun vs H Q _ => ∃ (m : Addr) (n : Nat) (t o l g : Int), vs = [.ref m, .int n, .int t] ∧ MachAt M H m o l g ∧ Num o l g ∧ 1 ≤ n ∧ n ≤ 40 ∧ ∀ cs ks H', SlowR (slL o l) (slG o g) (n - 1) cs ks → Same H H' → Q (.int (GS o ks t)) H'
def spMost (M : Addr) : Sp := fun vs H Q _ => ∃ (m : Addr) (n : Nat) (t o l g : Int), vs = [.ref m, .int n, .int t] ∧ MachAt M H m o l g ∧ Num o l g ∧ 1 ≤ n ∧ n ≤ 40 ∧ 0 ≤ t ∧ t ≤ 1000000000000 ∧ ∀ cs ks H', SlowR (slL o l) (slG o g) (n - 1) cs ks → Same H H' → Q (.int (GS o ks t)) H'
def spLeastSum (M : Addr) : Sp := fun vs H Q _ => ∃ (m : Addr) (n : Nat) (c o l g : Int), vs = [.ref m, .int n, .int c] ∧ MachAt M H m o l g ∧ Num o l g ∧ 1 ≤ n ∧ n ≤ 40 ∧ 1 ≤ c ∧ c ≤ 1000000000000 ∧ TbsOk H ∧
  ∀ cs ks t H', SlowR (slL o l) (slG o g) (n - 1) cs ks → 0 ≤ t → t < c → c ≤ GS o ks t → (0 < t → GS o ks (t - 1) < c) → Same H H' → Q (.int t) H'
def spLeastHands (M : Addr) : Sp := fun vs H Q _ => ∃ (m : Addr) (t c o l g : Int), vs = [.ref m, .int t, .int c] ∧ MachAt M H m o l g ∧ Num o l g ∧ 0 ≤ t ∧ t ≤ 1000000000000 ∧ 1 ≤ c ∧ c ≤ 1000000000000 ∧
  (∀ (n : Nat) H', 1 ≤ n → n ≤ 40 → (∀ cs ks, SlowR (slL o l) (slG o g) (n - 1) cs ks → c ≤ GS o ks t) → (∀ m : Nat, 1 ≤ m → m < n → ∀ cs ks, SlowR (slL o l) (slG o g) (m - 1) cs ks → GS o ks t < c) → Same H H' → Q (.int n) H') ∧
  ∀ H', (∀ m : Nat, 1 ≤ m → m ≤ 40 → ∀ cs ks, SlowR (slL o l) (slG o g) (m - 1) cs ks → GS o ks t < c) → Same H H' → Q .non H'
section
variable {P : Program} {w : World} {K : PySem.W.Frag} {mg : Str → Option Value} {base : Heap} {a : Adr}
theorem ok_check_count (T : Txt K mg base a) : FnOk P w K mg base CX0 3 a.a_check_count a.d_check_count ["count", "low", "high"] spCheckCount := by
  refine T.F_check_count.ok sc_check_count (fun vs H Q E h => ?_) (fun cdv A outer s H vs Q E hr h => ?_)
  · obtain ⟨t, lo, hi, rfl, _⟩ := h
    rfl
  · obtain ⟨t, lo, hi, rfl, h0, h1, k⟩ := h
    refine ⟨_, (pss_one (ps_if (pt_not (pt_val (pe_call (ok_is_between T) (hr.mono (by decide)) (by rfl) T.g_is_between T.F_is_between.kp T.b_is_between .nil pass0 (pa_cons (pv 0) (pa_cons (pv 1) (pa_cons (pv 2) pa_nil)))))) (pss_one ps_never)
 pss_nil)), ?_⟩
    repeat walk_at "rd"
    refine r_between ?_
    repeat walk_at "rd"
    refine r_nDT ⟨h0, h1⟩ ?_
    repeat walk_at "rd"
    exact k
theorem ok_check_time (T : Txt K mg base a) : FnOk P w K mg base CX0 3 a.a_check_time a.d_check_time ["time", "latest"] spCheckTime := by
  refine T.F_check_time.ok sc_check_time (fun vs H Q E h => ?_) (fun cdv A outer s H vs Q E hr h => ?_)
  · obtain ⟨t, hi, rfl, _⟩ := h
    rfl
  · obtain ⟨t, hi, rfl, h0, h1, k⟩ := h
    refine ⟨_, (pss_one (ps_if (pt_not (pt_val (pe_call (ok_is_between T) (hr.mono (by decide)) (by rfl) T.g_is_between T.F_is_between.kp T.b_is_between .nil pass0 (pa_cons (pv 0) (pa_cons pe_int (pa_cons (pv 1) pa_nil)))))) (pss_one ps_never)
 pss_nil)), ?_⟩
    repeat walk_at "rd"
    refine r_between ?_
    repeat walk_at "rd"
    refine r_nDT ⟨h0, h1⟩ ?_
    repeat walk_at "rd"
    exact k
theorem ok_greatest_sum (T : Txt K mg base a) : FnOk P w K mg base CX0 2 a.a_greatest_sum a.d_greatest_sum ["machine", "n", "time"] (spGreatest a.c_Machine) := by
  refine T.F_greatest_sum.ok sc_greatest_sum (fun vs H Q E h => ?_) (fun cdv A outer s H vs Q E hr h => ?_)
  · obtain ⟨m, n, t, o, l, g, rfl, _⟩ := h
    rfl
  · obtain ⟨m, n, t, o, l, g, rfl, hm, N, n1, n40, k⟩ := h
    obtain ⟨dx, em⟩ := id hm
    refine ⟨_, (pss_one (ps_ret (pe_op op_add (pe_op op_add (pv 2) pe_int) (pe_callB (cr_sum rfl) (by rfl) T.n_sum (by decide +kernel) (pa_cons (pe_lc (own := [("known", 3), ("_", 4)]) (g := gTup K 2 (gCons (gName 3) (gCons (gName 4) (gNil)))) (tt := tYes) rfl sc_greatest_sum.nd (pi_list (pe_call (ok_slow_tree T) (hr.mono (by decide)) (by rfl) T.g_slow_tree T.F_slow_tree.kp T.b_slow_tree .nil pass0 (pa_cons (pv 0) (pa_cons (pv 1) pa_nil)))) (blkOk_by (own := [("known", 3), ("_", 4)]) (N := ["machine", "n", "time", "known", "_"]) (sc := defScope s_greatest_sum) (by decide +kernel)) (fun _ _ _ _ _ => (pg_tupK (K := K) (n := 2) rfl (by rfl) (pgs_cons (pg_name (i := 3) sc_greatest_sum.nd rfl (Or.inl rfl)) (pgs_cons (pg_name (i := 4) sc_greatest_sum.nd rfl (Or.inl rfl)) pgs_nil)))) (fun _ _ _ _ _ => pts_nil) (fun _ _ _ _ _ => (pe_callB (call_max2 rfl) (by rfl) T.n_max (by decide +kernel) (pa_cons pe_int (pa_cons (pe_op op_sub (pe_op op_sub (pv 2) (pv 3)) (pe_fldK (K := K) rfl (pv 0) rfl)) pa_nil))))) pa_nil))))), ?_⟩
    repeat walk_at "rd"
    refine ⟨m, n, o, l, g, rfl, hm, N, n1, n40, fun p xs qs cs H1 hR s1 ep hA => ?_⟩
    have em := s1 _ _ em
    have hlq : qs.length ≤ 39 := by have := hR.len.2; rw [List.length_map] at this; omega
    refine ⟨p, rfl, ⟨_, SqL.of ep⟩, fun L hL => lc_list (K := K) (a := p) (xs := xs) (fun i H' => H' L = some (.lst (((qs.take i).map fun q => posP (t - q.1 - o)).map V.int)) ∧ H' p = some (.lst xs) ∧ Same H1 H') ?_ (fun i H' _ h => SqL.of h.2.1) ?_ ?_⟩
    · exact ⟨upd_same, (upd_ne (ne_of_none ep hL)).trans ep, Same.new hL⟩
    · rintro i x H2 hi ⟨h1, h2, h3⟩
      obtain ⟨u, q, rfl, hq, hu⟩ := (hA.keep h3).at hi
      have em := h3 _ _ em
      repeat walk_at "rd"
      refine ⟨rfl, ?_⟩
      repeat walk_at "rd"
      refine ⟨_, h1, small1000 (by rw [List.length_map, List.length_map, List.length_take]; omega), ?_, (upd_ne (ne_of_none ep hL)).trans h2, h3.over hL h1⟩
      rw [upd_same, take_more hq, List.map_append, List.map_append]
      rfl
    · rintro H2 ⟨h1, h2, h3⟩
      have hlx : xs.length = qs.length := hA.len
      rw [hlx, List.take_length] at h1
      refine ⟨L, _, rfl, SqL.of h1, ?_⟩
      have e : t + 1 + (qs.map fun q => posP (t - q.1 - o)).sum = GS o (qs.map Prod.fst) t := by unfold GS; rw [List.map_map]; rfl
      repeat walk_at "rd"
      rw [e]
      exact k cs _ H2 hR (s1.trans h3)
theorem ok_most_summed (T : Txt K mg base a) : FnOk P w K mg base CX0 4 a.a_most_summed a.d_most_summed ["machine", "n", "time"] (spMost a.c_Machine) := by
  refine T.F_most_summed.ok sc_most_summed (fun vs H Q E h => ?_) (fun cdv A outer s H vs Q E hr h => ?_)
  · obtain ⟨m, n, t, o, l, g, rfl, _⟩ := h
    rfl
  · obtain ⟨m, n, t, o, l, g, rfl, hm, N, n1, n40, t0, t9, k⟩ := h
    refine ⟨_, (pss_cons (ps_expr (pe_call (ok_check_count T) (hr.mono (by decide)) (by rfl) T.g_check_count T.F_check_count.kp T.b_check_count .nil pass0 (pa_cons (pv 1) (pa_cons pe_int (pa_cons (pe_glob (v := .int 40) (by rfl) T.g_MOST_SHARING.choose_spec ⟨_, rfl⟩) pa_nil)))))
 (pss_cons (ps_expr (pe_call (ok_check_time T) (hr.mono (by decide)) (by rfl) T.g_check_time T.F_check_time.kp T.b_check_time .nil pass0 (pa_cons (pv 2) (pa_cons (pe_glob (v := .int 1000000000000) (by rfl) T.g_LATEST_SUM.choose_spec ⟨_, rfl⟩) pa_nil))))
 (pss_one (ps_ret (pe_call (ok_greatest_sum T) (hr.mono (by decide)) (by rfl) T.g_greatest_sum T.F_greatest_sum.kp T.b_greatest_sum .nil pass0 (pa_cons (pv 0) (pa_cons (pv 1) (pa_cons (pv 2) pa_nil)))))))), ?_⟩
    repeat walk_at "rd"
    refine ⟨n, 1, 40, rfl, by omega, by omega, ?_⟩
    repeat walk_at "rd"
    refine ⟨t, _, rfl, t0, t9, ?_⟩
    repeat walk_at "rd"
    exact ⟨m, n, t, o, l, g, rfl, hm, N, n1, n40, k⟩
theorem ok_least_sum_time (T : Txt K mg base a) : FnOk P w K mg base CX0 8 a.a_least_sum_time a.d_least_sum_time ["machine", "n", "count"] (spLeastSum a.c_Machine) := by
  refine T.F_least_sum_time.ok sc_least_sum_time (fun vs H Q E h => ?_) (fun A outer s H vs Q E hr h => ?_)
  · obtain ⟨m, n, c, o, l, g, rfl, _⟩ := h
    rfl
  · obtain ⟨m, n, c, o, l, g, rfl, hm, N, n1, n40, c1, c9, hT, k⟩ := h
    refine ⟨_, (pss_cons (ps_expr (pe_call (ok_check_count T) (hr.mono (by decide)) (by rfl) T.g_check_count T.F_check_count.kp T.b_check_count .nil pass0 (pa_cons (pv 1) (pa_cons pe_int (pa_cons (pe_glob (v := .int 40) (by rfl) T.g_MOST_SHARING.choose_spec ⟨_, rfl⟩) pa_nil)))))
 (pss_cons (ps_expr (pe_call (ok_check_count T) (hr.mono (by decide)) (by rfl) T.g_check_count T.F_check_count.kp T.b_check_count .nil pass0 (pa_cons (pv 2) (pa_cons pe_int (pa_cons (pe_glob (v := .int 1000000000000) (by rfl) T.g_MOST_ASKED.choose_spec ⟨_, rfl⟩) pa_nil)))))
 (pss_one (ps_ret (pe_lamcall1 (k := 5) (tp := "time") (by rfl) T.g_least_where T.F_least_where T.b_least_where rfl sc_least_where rfl (Or.inl rfl) (gives_least_where T) T.B_least_sum_time rfl T.tn_least_sum_time T.tu_least_sum_time (hr.mono (by decide)) (lamS1_by (sc := defScope s_least_sum_time) (by decide +kernel)) (by show ("time" : Str) ∉ (["machine", "n", "count"] : List Str); decide) rfl (fun q cl pm cv ctv u => rfl) pe_int (pe_op op_sub (pv 2) pe_int) (fun A outer s H f c2 hr => (pe_cmpR op_ge (pe_call (ok_greatest_sum T) (hr.mono (by decide)) (by rfl) T.g_greatest_sum T.F_greatest_sum.kp T.b_greatest_sum .nil pass0 (pa_cons (pv 0) (pa_cons (pv 1) (pa_cons (pv 3) pa_nil)))) (pv 2) (nomark _)))))))), ?_⟩
    repeat walk_at "rd"
    refine ⟨n, 1, 40, rfl, by omega, by omega, ?_⟩
    repeat walk_at "rd"
    refine ⟨c, 1, _, rfl, c1, c9, ?_⟩
    repeat walk_at "rd"
    refine r_lam1 ?_
    repeat walk_at "rd"
    obtain ⟨cs, ks, hR⟩ := SlowR.ex (slL o l) (slG o g) (n - 1)
    refine ⟨hT, fun H3 s3 => ⟨0, _, fun t => decide (c ≤ GS o ks t), rfl, rfl, by omega, fun y z h1 h2 h3 h4 => decide_eq_true (Int.le_trans (of_decide_eq_true h4) (GS_mono h2 ks)), fun x H' Q' x0 x1 s4 hq => ?_, fun x H' x0 x1 hb he s4 => ?_⟩⟩
    · have hm4 := hm.keep (s3.trans s4)
      repeat walk_at "rd"
      refine ⟨m, n, x, o, l, g, rfl, hm4, N, n1, n40, fun cs' ks' H5 hR' s5 => ?_⟩
      obtain ⟨_, rfl⟩ := hR.uniq hR'
      repeat walk_at "rd"
      exact hq _ s5
    · refine k cs ks x _ hR x0 (by omega) ?_ (fun h => ?_) (s3.trans s4)
      · by_cases e : x < c - 1
        · exact of_decide_eq_true (he e)
        · have := GS_ge (o := o) (t := x) ks
          omega
      · have := of_decide_eq_false (hb (x - 1) (by omega) (by omega))
        omega
theorem ok_least_summers (T : Txt K mg base a) : FnOk P w K mg base CX0 4 a.a_least_summers a.d_least_summers ["machine", "time", "count"] (spLeastHands a.c_Machine) := by
  refine T.F_least_summers.ok sc_least_summers (fun vs H Q E h => ?_) (fun cdv A outer s H vs Q E hr h => ?_)
  · obtain ⟨m, t, c, o, l, g, rfl, _⟩ := h
    rfl
  · obtain ⟨m, t, c, o, l, g, rfl, hm, N, t0, t9, c1, c9, k1, k2⟩ := h
    refine ⟨_, (pss_cons (ps_expr (pe_call (ok_check_time T) (hr.mono (by decide)) (by rfl) T.g_check_time T.F_check_time.kp T.b_check_time .nil pass0 (pa_cons (pv 1) (pa_cons (pe_glob (v := .int 1000000000000) (by rfl) T.g_LATEST_SUM.choose_spec ⟨_, rfl⟩) pa_nil))))
 (pss_cons (ps_expr (pe_call (ok_check_count T) (hr.mono (by decide)) (by rfl) T.g_check_count T.F_check_count.kp T.b_check_count .nil pass0 (pa_cons (pv 2) (pa_cons pe_int (pa_cons (pe_glob (v := .int 1000000000000) (by rfl) T.g_MOST_ASKED.choose_spec ⟨_, rfl⟩) pa_nil)))))
 (pss_cons (ps_for (by exact PassesOwn.never) rfl (pi_range2 (by rfl) T.n_range (pa_cons pe_int (pa_cons (pe_op op_add (pe_glob (v := .int 40) (by rfl) T.g_MOST_SHARING.choose_spec ⟨_, rfl⟩) pe_int) pa_nil))) (pg_name (i := 3) sc_least_summers.nd rfl (Or.inl rfl))
 (pss_one (ps_if (pt_cmpR op_ge (pe_call (ok_greatest_sum T) (hr.mono (by decide)) (by rfl) T.g_greatest_sum T.F_greatest_sum.kp T.b_greatest_sum .nil pass0 (pa_cons (pv 0) (pa_cons (pv 3) (pa_cons (pv 1) pa_nil)))) (pv 2) (nomark _)) (pss_one (ps_ret (pv 3)))
 pss_nil)))
 (pss_one (ps_ret pe_non))))), ?_⟩
    repeat walk_at "rd"
    refine ⟨t, _, rfl, t0, t9, ?_⟩
    repeat walk_at "rd"
    refine ⟨c, 1, _, rfl, c1, c9, ?_⟩
    repeat walk_at "rd"
    refine ⟨by decide, for_range (lo := 1) (n := 40) (fun i σ H' => ∃ v3 : Option V, σ = [some (.ref m), some (.int t), some (.int c), v3] ∧ Same H H' ∧ ∀ m : Nat, 1 ≤ m → m ≤ i → ∀ cs ks, SlowR (slL o l) (slG o g) (m - 1) cs ks → GS o ks t < c) ⟨_, rfl, Same.refl H, fun m h1 h2 => absurd h1 (by omega)⟩ ?_ ?_⟩
    · rintro i σ H1 hi ⟨v3, rfl, s1, hno⟩
      rw [show (1 : Int) + (i : Nat) = ((i + 1 : Nat) : Int) by omega]
      repeat first | walk_at "rd" | walk_at "rdi"
      refine ⟨m, i + 1, t, o, l, g, rfl, hm.keep s1, N, by omega, by omega, fun cs ks H2 hR s2 => ?_⟩
      repeat walk_at "rd"
      refine ite_d (fun hc => ?_) (fun hc => ?_)
      · repeat walk_at "rd"
        refine k1 (i + 1) H2 (by omega) (by omega) (fun cs' ks' hR' => ?_) (fun m h1 h2 => hno m h1 (by omega)) (s1.trans s2)
        obtain ⟨_, rfl⟩ := hR.uniq hR'
        exact hc
      · repeat walk_at "rd"
        refine ⟨_, rfl, s1.trans s2, fun m h1 h2 cs' ks' hR' => ?_⟩
        by_cases e : m ≤ i
        · exact hno m h1 e cs' ks' hR'
        · obtain rfl : m = i + 1 := by omega
          obtain ⟨_, rfl⟩ := hR.uniq hR'
          omega
    · rintro σ H1 ⟨v3, rfl, s1, hno⟩
      repeat walk_at "rd"
      exact k2 H1 hno s1
end

/-! ### the law of k83: its helpers -/
theorem ix_nat {n j : Nat} (h : j < n) : ixN n (j : Int) = some j := by
  unfold ixN
  simp
  omega
theorem cut_one (z : V) (zs : List V) : cutV (z :: zs) (some 1) none = zs := by
  unfold cutV
  simp [HT.sIx]
theorem index_first : ∀ {cs : List Int} {c : Int}, c ∈ cs → ∃ j : Nat, cs[j]? = some c ∧ ∀ k : Nat, k < j → cs[k]? ≠ some c
  | [], _, h => by cases h
  | x :: cs, c, h => by
    by_cases e : x = c
    · exact ⟨0, by rw [e]; rfl, fun k hk => absurd hk (Nat.not_lt_zero _)⟩
    · rcases List.mem_cons.mp h with h | h
      · exact absurd h.symm e
      · obtain ⟨j, h1, h2⟩ := index_first h
        refine ⟨j + 1, by simpa using h1, fun k hk => ?_⟩
        cases k with
        | zero => intro z; exact e (by simpa using z)
        | succ k => rw [List.getElem?_cons_succ]; exact h2 k (by omega)
theorem r_index {K : PySem.W.Frag} {H : Hp} {Q : VK} {a : Addr} {cs : List Int} {c : Int} (h : H a = some (.lst (cs.map V.int))) (hc : c ∈ cs) (q : ∀ j : Nat, cs[j]? = some c → (∀ k : Nat, k < j → cs[k]? ≠ some c) → Q (.int j) H) : rIndex K (.ref a) [.int c] H Q := by
  obtain ⟨j, h1, h2⟩ := index_first hc
  refine ⟨a, _, .int c, j, .int c, rfl, rfl, SqL.of h, rfl, ?_, by rw [List.getElem?_map, h1]; rfl, by show (c == c) = true; exact beq_self_eq_true c, fun m z hm hz => ?_, q j h1 h2⟩
  · rw [List.all_eq_true]
    intro x hx
    obtain ⟨y, _, rfl⟩ := List.mem_map.mp hx
    rfl
  · obtain ⟨y, hy, rfl⟩ := int_of_get hz
    show (y == c) = false
    exact beq_false_of_ne fun e => h2 m hm (by rw [hy, e])
def spKnown : Sp := fun vs H Q _ => ∃ (t : Addr) (n : Nat) (o l g : Int), vs = [.ref t, .int n] ∧ H t = some (.tup [.int o, .int l, .int g]) ∧ Num o l g ∧ 1 ≤ n ∧ n ≤ 40 ∧ ∀ p cs ks H', SlowR (slL o l) (slG o g) (n - 1) cs ks → Same H H' → H' p = some (.lst ((0 :: ks).map V.int)) → Q (.ref p) H'
def spMostL : Sp := fun vs H Q _ => ∃ (t : Addr) (n : Nat) (tm o l g : Int), vs = [.ref t, .int n, .int tm] ∧ H t = some (.tup [.int o, .int l, .int g]) ∧ Num o l g ∧ 1 ≤ n ∧ n ≤ 40 ∧ ∀ cs ks H', SlowR (slL o l) (slG o g) (n - 1) cs ks → Same H H' → Q (.int (GS o ks tm)) H'
section
variable {P : Program} {w : World} {K : PySem.W.Frag} {mg : Str → Option Value} {base : Heap} {a : Adr}
theorem ok__law_small (T : Txt K mg base a) : FnOk P w K mg base CX0 2 a.a__law_small a.d__law_small ["_law_source_here"] spNumbers := by
  refine T.F__law_small.ok sc__law_small (fun vs H Q E h => ?_) (fun cdv A outer s H vs Q E hr h => ?_)
  · obtain ⟨p, q, rfl, _⟩ := h
    rfl
  · obtain ⟨p, q, rfl, hs, k⟩ := h
    refine ⟨_, (pss_cons (ps_set (i := 1) sc__law_small.nd rfl (Or.inl rfl) (pe_call (ok__law_draw T) (hr.mono (by decide)) (by rfl) T.g__law_draw T.F__law_draw.kp T.b__law_draw .nil pass0 (pa_cons (pv 0) (pa_cons pe_int pa_nil))))
 (pss_cons (ps_set (i := 2) sc__law_small.nd rfl (Or.inl rfl) (pe_call (ok__law_draw T) (hr.mono (by decide)) (by rfl) T.g__law_draw T.F__law_draw.kp T.b__law_draw .nil pass0 (pa_cons (pv 0) (pa_cons pe_int pa_nil))))
 (pss_cons (ps_set (i := 3) sc__law_small.nd rfl (Or.inl rfl) (pe_op op_add pe_int (pe_call (ok__law_draw T) (hr.mono (by decide)) (by rfl) T.g__law_draw T.F__law_draw.kp T.b__law_draw .nil pass0 (pa_cons (pv 0) (pa_cons pe_int pa_nil)))))
 (pss_cons (ps_if (pt_cmpR op_eq (pe_op op_add (pe_op op_mul pe_int (pv 1)) (pv 2)) pe_int (nomark _)) (pss_one (ps_set (i := 2) sc__law_small.nd rfl (Or.inl rfl) pe_int))
 pss_nil)
 (pss_one (ps_ret (pe_tup (pa_cons (pv 1) (pa_cons (pv 2) (pa_cons (pv 3) pa_nil)))))))))), ?_⟩
    repeat walk_at "rd"
    refine ⟨p, q, 4, rfl, hs, by decide, by decide, fun o H1 o0 o4 hs1 b1 => ?_⟩
    repeat walk_at "rd"
    refine ⟨p, q, 5, rfl, hs1, by decide, by decide, fun l H2 l0 l4 hs2 b2 => ?_⟩
    repeat walk_at "rd"
    refine ⟨p, q, 6, rfl, hs2, by decide, by decide, fun g H3 g0 g4 hs3 b3 => ?_⟩
    have b3 := (b1.trans b2).trans b3
    repeat first | walk_at "rd" | walk_at "rdi"
    refine ite_d (fun hc => ?_) (fun hc => ?_)
    · repeat walk_at "rd"
      refine new_at (Nat.le_of_ble_eq_true rfl) (fun u H4 nu su eu => ?_)
      exact k u o 1 (1 + g) _ ⟨eu, o0, by omega, by decide, by decide, by omega, by omega, by omega⟩ (b3.free hs3 nu) (hs3.keep su) (b3.trans (But.of_same su))
    · repeat walk_at "rd"
      refine new_at (Nat.le_of_ble_eq_true rfl) (fun u H4 nu su eu => ?_)
      exact k u o l (1 + g) _ ⟨eu, o0, by omega, l0, by omega, by omega, by omega, by omega⟩ (b3.free hs3 nu) (hs3.keep su) (b3.trans (But.of_same su))
theorem ok__law_known (T : Txt K mg base a) : FnOk P w K mg base CX0 1 a.a__law_known a.d__law_known ["_law_numbers_here", "_law_n"] spKnown := by
  refine T.F__law_known.ok sc__law_known (fun vs H Q E h => ?_) (fun cdv A outer s H vs Q E hr h => ?_)
  · obtain ⟨t, n, o, l, g, rfl, _⟩ := h
    rfl
  · obtain ⟨t, n, o, l, g, rfl, et, N, n1, n40, k⟩ := h
    refine ⟨_, (pss_cons (ps_set (i := 2) sc__law_known.nd rfl (Or.inr rfl) (pe_op op_add (pe_op op_add (pe_op op_mul pe_int (pe_ix ix_tup (pv 0) pe_int (fun _ _ => rfl))) (pe_ix ix_tup (pv 0) pe_int (fun _ _ => rfl))) pe_int))
 (pss_cons (ps_set (i := 3) sc__law_known.nd rfl (Or.inr rfl) (pe_callB (call_max2 rfl) (by rfl) T.n_max (by decide +kernel) (pa_cons (pe_ix ix_tup (pv 0) pe_int (fun _ _ => rfl)) (pa_cons (pe_op op_add (pe_ix ix_tup (pv 0) pe_int (fun _ _ => rfl)) pe_int) pa_nil))))
 (pss_cons (ps_set (i := 4) sc__law_known.nd rfl (Or.inr rfl) (pe_lst (pa_cons pe_int pa_nil)))
 (pss_cons (ps_set (i := 5) sc__law_known.nd rfl (Or.inr rfl) (pe_lst (pa_cons pe_int pa_nil)))
 (pss_cons (ps_while PassesOwn.never (pt_cmpR op_lt (pe_callB call_len_seq (by rfl) T.n_len (by decide +kernel) (pa_cons (pv 4) pa_nil)) (pv 1) (nomark _)) (pss_cons (ps_setLc (i := 6) (own := [("_law_k", 8)]) (g := gName 8) (tt := tYes) rfl sc__law_known.nd rfl rfl (sw_true rfl rfl rfl (by decide +kernel)) (pi_range1 (by rfl) T.n_range (pa_cons (pe_callB call_len_seq (by rfl) T.n_len (by decide +kernel) (pa_cons (pv 4) pa_nil)) pa_nil)) (blkOk_by (own := [("_law_k", 8)]) (N := ["_law_numbers_here", "_law_n", "_law_letter", "_law_gap", "_law_known_here", "_law_sent", "_law_times", "_law_at", "_law_k"]) (sc := defScope s__law_known) (by decide +kernel)) (fun _ _ _ _ _ => (pg_name (i := 8) sc__law_known.nd rfl (Or.inl rfl))) (fun _ _ _ _ _ => pts_nil) (fun _ _ _ _ _ => (pe_op op_add (pe_op op_add (pe_ix (ix_listK (K := K) rfl) (pv 4) (pv 8) (fun _ _ => rfl)) (pe_op op_mul (pe_ix (ix_listK (K := K) rfl) (pv 5) (pv 8) (fun _ _ => rfl)) (pv 3))) (pv 2))))
 (pss_cons (ps_set (i := 7) sc__law_known.nd rfl (Or.inl rfl) (pe_bm PySem.F.plainAttrs_list PySem.F.slot_list_index PySem.F.type_list_index mt_index (pv 6) (pa_cons (pe_callB (cr_min rfl) (by rfl) T.n_min (by decide +kernel) (pa_cons (pv 6) pa_nil)) pa_nil)))
 (pss_cons (ps_expr (pe_bm PySem.F.plainAttrs_list PySem.F.slot_list_append PySem.F.type_list_append mt_append (pv 4) (pa_cons (pe_ix ix_list (pv 6) (pv 7) (fun _ _ => rfl)) pa_nil)))
 (pss_cons (ps_augS (pv 5) (pv 7) gt_list pe_int ip_add set_list)
 (pss_one (ps_expr (pe_bm PySem.F.plainAttrs_list PySem.F.slot_list_append PySem.F.type_list_append mt_append (pv 5) (pa_cons pe_int pa_nil)))))))))
 (pss_one (ps_ret (pv 4)))))))), ?_⟩
    repeat walk_at "rd"
    have eg : (if o + 1 > g then o + 1 else g) = slG o g := rfl
    have el : 2 * o + l + 1 = slL o l := rfl
    rw [eg, el]
    have hG9 : slG o g ≤ 1000000001 ∧ 0 ≤ slG o g := by have := N.no; have := N.ng; unfold slG; split <;> omega
    refine new_at (Nat.le_of_ble_eq_true rfl) (fun C H1 nC s1 eC => ?_)
    repeat walk_at "rd"
    refine new_at (Nat.le_of_ble_eq_true rfl) (fun S H2 nS s2 eS => ?_)
    have nCS : C ≠ S := ne_of_none eC nS
    have eC := s2 _ _ eC
    have nSH : H S = none := s1.free nS
    have s2 := s1.trans s2
    clear s1 nS
    repeat walk_at "rd"
    refine while_by (fun σ H' => ∃ (v6 v7 v8 : Option V) (j : Nat) (cs ks : List Int) (ss : List Nat), σ = [some (.ref t), some (.int n), some (.int (slL o l)), some (.int (slG o g)), some (.ref C), some (.ref S), v6, v7, v8] ∧ Same H H' ∧ SlowR (slL o l) (slG o g) j cs ks ∧ j ≤ n - 1 ∧ H' C = some (.lst ((0 :: ks).map V.int)) ∧ H' S = some (.lst (ss.map fun s : Nat => V.int s)) ∧
        ss.length = j + 1 ∧ (∀ s, s ∈ ss → s ≤ j) ∧ ∀ (i : Nat) (c k : Int) (s : Nat), cs[i]? = some c → (0 :: ks)[i]? = some k → ss[i]? = some s → c = k + s * slG o g + slL o l)
      (fun σ H' => match H' C with | some (.lst xs) => n - xs.length | _ => 0) ⟨_, _, _, 0, [slL o l], [], [0], rfl, s2, .zero, Nat.zero_le _, eC, eS, rfl, (fun s hs => by rw [List.mem_singleton] at hs; omega), (fun i c k s h1 h2 h3 => by
        cases i with
        | zero =>
          obtain rfl : slL o l = c := by simpa using h1
          obtain rfl : (0 : Int) = k := by simpa using h2
          obtain rfl : (0 : Nat) = s := by simpa using h3
          simp
        | succ i => simp at h1)⟩ ?_ ?_
    · clear s2 eC eS
      rintro σ H3 ⟨v6, v7, v8, j, cs, ks, ss, rfl, s3, hR, hj, eC, eS, hss, hsj, hrel⟩
      have hlen := hR.len
      have hkl : ((0 : Int) :: ks).length = j + 1 := by rw [List.length_cons, hlen.2]
      repeat walk_at "rd"
      rw [List.length_map, hkl]
      refine ite_d (fun hc => ?_) (fun hc => ?_)
      · repeat walk_at "rd"
        rw [List.length_map, hkl]
        refine ⟨by omega, by omega, fun D hD => lc_range (lo := 0) (n := j + 1) (fun i H' => H' D = some (.lst ((cs.take i).map V.int)) ∧ H' C = some (.lst ((0 :: ks).map V.int)) ∧ H' S = some (.lst (ss.map fun s : Nat => V.int s)) ∧ Same H3 H') ?_ ?_ ?_⟩
        · exact ⟨upd_same, (upd_ne (ne_of_none eC hD)).trans eC, (upd_ne (ne_of_none eS hD)).trans eS, Same.new hD⟩
        · rintro i H4 hi ⟨h1, h2, h3, h4⟩
          obtain ⟨kv, hk⟩ : ∃ kv, (0 :: ks)[i]? = some kv := ⟨_, List.getElem?_eq_getElem (by omega)⟩
          obtain ⟨sv, hs⟩ : ∃ sv, ss[i]? = some sv := ⟨_, List.getElem?_eq_getElem (by omega)⟩
          obtain ⟨cv, hcv⟩ : ∃ cv, cs[i]? = some cv := ⟨_, List.getElem?_eq_getElem (by omega)⟩
          have hs9 := hsj sv (List.mem_iff_getElem?.mpr ⟨_, hs⟩)
          rw [show (0 : Int) + (i : Nat) = (i : Nat) by omega]
          repeat walk_at "rd"
          refine ⟨rfl, ?_⟩
          repeat walk_at "rd"
          refine r_ixL h2 (v := .int kv) (atI_nat (by rw [List.getElem?_map, hk]; rfl)) ?_
          repeat walk_at "rd"
          refine r_ixL h3 (v := .int sv) (atI_nat (by rw [List.getElem?_map, hs]; rfl)) ?_
          repeat walk_at "rd"
          refine ⟨_, h1, small1000 (by rw [List.length_map, List.length_take]; omega), ?_, (upd_ne (ne_of_none eC hD)).trans h2, (upd_ne (ne_of_none eS hD)).trans h3, h4.over hD h1⟩
          rw [upd_same, take_more hcv, List.map_append, ← hrel i cv kv sv hcv hk hs]
          rfl
        · rintro H4 ⟨h1, h2, h3, h4⟩
          rw [List.take_of_length_le (by omega)] at h1
          have eC3 := eC
          clear eC eS
          repeat walk_at "rd"
          refine ⟨.inl ⟨rfl, _, SqL.of h1⟩, ?_⟩
          repeat walk_at "rd"
          refine r_min h1 (by omega) (fun c hcm hle => ?_)
          repeat walk_at "rd"
          refine r_index h1 hcm (fun i hi hf => ?_)
          have hil : i < cs.length := (List.getElem?_eq_some_iff.mp hi).1
          have hR2 := SlowR.step hR hi hle hf
          obtain ⟨kv, hk⟩ : ∃ kv, (0 :: ks)[i]? = some kv := ⟨_, List.getElem?_eq_getElem (by omega)⟩
          obtain ⟨sv, hsv⟩ : ∃ sv, ss[i]? = some sv := ⟨_, List.getElem?_eq_getElem (by omega)⟩
          have hcv := hrel i c kv sv hi hk hsv
          have eD4 : H4 D = some (.lst (cs.map V.int)) := h1
          have hS : (ss.map fun s : Nat => V.int s).set i (V.int ((sv : Int) + 1)) = (ss.set i (sv + 1)).map fun s : Nat => V.int s := by rw [List.map_set]; rfl
          have hS2 : ((ss.set i (sv + 1)).map fun s : Nat => V.int s) ++ [V.int 0] = (ss.set i (sv + 1) ++ [0]).map fun s : Nat => V.int s := by rw [List.map_append]; rfl
          have hC2 : ((0 :: ks).map V.int) ++ [V.int c] = ((0 :: (ks ++ [c])).map V.int) := by rw [← List.cons_append, List.map_append]; rfl
          have hrel2 : ∀ (x : Nat) (c2 k2 : Int) (s2 : Nat), (cs.set i (c + slG o g) ++ [c + slL o l])[x]? = some c2 → (0 :: (ks ++ [c]))[x]? = some k2 → (ss.set i (sv + 1) ++ [0])[x]? = some s2 → c2 = k2 + s2 * slG o g + slL o l := fun x c2 k2 s2 g1 g2 g3 => by
            rw [← List.cons_append] at g2
            by_cases hx : x < j + 1
            · rw [List.getElem?_append_left (by rw [List.length_set]; omega)] at g1 g3
              rw [List.getElem?_append_left (by omega)] at g2
              by_cases e : i = x
              · subst e
                rw [List.getElem?_set_self hil] at g1
                rw [List.getElem?_set_self (by omega)] at g3
                obtain rfl : c + slG o g = c2 := Option.some.inj g1
                obtain rfl : sv + 1 = s2 := Option.some.inj g3
                obtain rfl : kv = k2 := Option.some.inj (hk.symm.trans g2)
                rw [hcv, Int.natCast_add, Int.add_mul]
                have : ((1 : Nat) : Int) * slG o g = slG o g := Int.one_mul _
                omega
              · rw [List.getElem?_set_ne e] at g1 g3
                exact hrel x c2 k2 s2 g1 g2 g3
            · have hxl := (List.getElem?_eq_some_iff.mp g1).1
              rw [List.length_append, List.length_set, List.length_singleton] at hxl
              obtain rfl : x = j + 1 := by omega
              rw [List.getElem?_append_right (by rw [List.length_set]; omega), List.length_set, hlen.1, Nat.sub_self] at g1
              rw [List.getElem?_append_right (by rw [List.length_set]; omega), List.length_set, hss, Nat.sub_self] at g3
              rw [List.getElem?_append_right (by omega), hkl, Nat.sub_self] at g2
              obtain rfl : c + slL o l = c2 := by simpa using g1
              obtain rfl : c = k2 := by simpa using g2
              obtain rfl : (0 : Nat) = s2 := by simpa using g3
              simp
          clear h1
          repeat walk_at "rd"
          refine ⟨.inl ⟨rfl, _, SqL.of h2⟩, ?_⟩
          repeat walk_at "rd"
          refine r_ixL eD4 (v := .int c) (atI_nat (by rw [List.getElem?_map, hi]; rfl)) ?_
          repeat walk_at "rd"
          refine r_app h2 (small1000 (by rw [List.length_map]; omega)) ?_
          rw [hC2]
          have s6 := (s3.trans h4).over (o := HO.lst ((0 :: (ks ++ [c])).map V.int)) nC h2
          have eC6 : L2.upd H4 C (HO.lst ((0 :: (ks ++ [c])).map V.int)) C = some (HO.lst ((0 :: (ks ++ [c])).map V.int)) := upd_same
          have eS6 : L2.upd H4 C (HO.lst ((0 :: (ks ++ [c])).map V.int)) S = some (HO.lst (ss.map fun s : Nat => V.int s)) := (upd_ne nCS.symm).trans h3
          generalize L2.upd H4 C (HO.lst ((0 :: (ks ++ [c])).map V.int)) = H6 at s6 eC6 eS6 ⊢
          repeat walk_at "rd"
          refine r_ixL eS6 (v := .int sv) (atI_nat (by rw [List.getElem?_map, hsv]; rfl)) ?_
          repeat walk_at "rd"
          refine r_setL eS6 (ix_nat (by rw [List.length_map]; omega)) ?_
          rw [hS]
          have s7 := s6.over (o := HO.lst ((ss.set i (sv + 1)).map fun s : Nat => V.int s)) nSH eS6
          have eS7 : L2.upd H6 S (HO.lst ((ss.set i (sv + 1)).map fun s : Nat => V.int s)) S = some (HO.lst ((ss.set i (sv + 1)).map fun s : Nat => V.int s)) := upd_same
          have eC7 : L2.upd H6 S (HO.lst ((ss.set i (sv + 1)).map fun s : Nat => V.int s)) C = some (HO.lst ((0 :: (ks ++ [c])).map V.int)) := (upd_ne nCS).trans eC6
          generalize L2.upd H6 S (HO.lst ((ss.set i (sv + 1)).map fun s : Nat => V.int s)) = H7 at s7 eS7 eC7 ⊢
          repeat walk_at "rd"
          refine ⟨.inl ⟨rfl, _, SqL.of eS7⟩, ?_⟩
          repeat walk_at "rd"
          refine r_app eS7 (small1000 (by rw [List.length_map, List.length_set]; omega)) ?_
          rw [hS2]
          refine ⟨⟨_, _, _, j + 1, _, _, _, rfl, s7.over nSH eS7, hR2, by omega, (upd_ne nCS).trans eC7, upd_same, by rw [List.length_append, List.length_set, List.length_singleton, hss], fun y hy => ?_, hrel2⟩, ?_⟩
          · rcases List.mem_append.mp hy with hy | hy
            · rcases List.mem_or_eq_of_mem_set hy with hy | hy
              · exact Nat.le_succ_of_le (hsj y hy)
              · have := hsj sv (List.mem_iff_getElem?.mpr ⟨_, hsv⟩)
                omega
            · rw [List.mem_singleton] at hy
              omega
          · rw [show L2.upd H7 S _ C = some (HO.lst ((0 :: (ks ++ [c])).map V.int)) from (upd_ne nCS).trans eC7, eC3]
            dsimp only
            rw [List.length_map, List.length_map, List.length_cons, List.length_append, List.length_singleton, List.length_cons]
            rw [List.length_cons] at hkl
            omega
      · repeat walk_at "rd"
        obtain rfl : j = n - 1 := by omega
        exact k C cs ks _ hR s3 eC
    · rintro σ H' Q1 Q2 hq h
      obtain ⟨y1, e1, p, ys, e2, hs, y2, e3, i2, j2, r3, r4, b, r5, q⟩ := h
      exact ⟨y1, e1, p, ys, e2, hs, y2, e3, i2, j2, r3, r4, b, r5, hq _ _ q⟩
theorem ok__law_most (T : Txt K mg base a) : FnOk P w K mg base CX0 2 a.a__law_most a.d__law_most ["_law_numbers_here", "_law_n", "_law_time"] spMostL := by
  refine T.F__law_most.ok sc__law_most (fun vs H Q E h => ?_) (fun cdv A outer s H vs Q E hr h => ?_)
  · obtain ⟨t, n, tm, o, l, g, rfl, _⟩ := h
    rfl
  · obtain ⟨t, n, tm, o, l, g, rfl, et, N, n1, n40, k⟩ := h
    refine ⟨_, (pss_cons (ps_set (i := 3) sc__law_most.nd rfl (Or.inl rfl) (pe_op op_add (pv 2) pe_int))
 (pss_cons (ps_for (by exact PassesOwn.never) rfl (pi_list (pe_slice sl_list (pe_call (ok__law_known T) (hr.mono (by decide)) (by rfl) T.g__law_known T.F__law_known.kp T.b__law_known .nil pass0 (pa_cons (pv 0) (pa_cons (pv 1) pa_nil))) (po_some pe_int) po_none)) (pg_name (i := 4) sc__law_most.nd rfl (Or.inl rfl))
 (pss_one (ps_if (pt_cmpR op_gt (pe_op op_sub (pv 2) (pv 4)) (pe_ix ix_tup (pv 0) pe_int (fun _ _ => rfl)) (nomark _)) (pss_one (ps_aug (i := 3) sc__law_most.nd rfl (Or.inl rfl) (pe_op op_sub (pe_op op_sub (pv 2) (pv 4)) (pe_ix ix_tup (pv 0) pe_int (fun _ _ => rfl))) ip_add))
 pss_nil)))
 (pss_one (ps_ret (pv 3))))), ?_⟩
    repeat walk_at "rd"
    refine ⟨t, n, o, l, g, rfl, et, N, n1, n40, fun p cs ks H1 hR s1 ep => ?_⟩
    have et := s1 _ _ et
    have hlk := hR.len.2
    repeat walk_at "rd"
    refine r_slL (SqL.of ep) (fun p2 H2 n2 s2 e2 => ?_)
    have e2 : H2 p2 = some (.lst (ks.map V.int)) := by rw [e2, List.map_cons, cut_one]
    have et := s2 _ _ et
    repeat walk_at "rd"
    refine ⟨p2, rfl, ⟨_, SqL.of e2⟩, for_list (K := K) (a := p2) (xs := ks.map V.int) (fun i σ H' => ∃ v4 : Option V, σ = [some (.ref t), some (.int n), some (.int tm), some (.int (GS o (ks.take i) tm)), v4] ∧ H' = H2) ⟨_, by rw [List.take_zero]; unfold GS; simp; rfl, rfl⟩ (fun i σ H' _ ⟨_, _, e⟩ => by rw [e]; exact SqL.of e2) ?_ ?_⟩
    · rintro i x σ H3 hi ⟨v4, rfl, rfl⟩
      obtain ⟨z, hz, rfl⟩ := int_of_get hi
      have hg : GS o (ks.take (i + 1)) tm = GS o (ks.take i) tm + posP (tm - z - o) := by rw [take_more hz, GS_snoc]
      repeat walk_at "rd"
      refine ite_d (fun hc => ?_) (fun hc => ?_)
      · have hp : posP (tm - z - o) = tm - z - o := if_pos (by omega)
        repeat walk_at "rd"
        exact ⟨_, by rw [hg, hp]; rfl, rfl⟩
      · have hp : posP (tm - z - o) = 0 := if_neg (by omega)
        repeat walk_at "rd"
        exact ⟨_, by rw [hg, hp, Int.add_zero]; rfl, rfl⟩
    · rintro σ H3 ⟨v4, rfl, rfl⟩
      rw [List.length_map, List.take_length]
      repeat walk_at "rd"
      exact k cs ks _ hR (s1.trans s2)
end

section
variable {P : Program} {w : World} {K : PySem.W.Frag} {mg : Str → Option Value} {base : Heap} {a : Adr}
theorem ok__law_is (T : Txt K mg base a) : FnOk P w K mg base CX0 1 a.a__law_is a.d__law_is ["_law_thing", "_law_due"] spIs := by
  refine T.F__law_is.ok sc__law_is (fun vs H Q E h => ?_) (fun cdv A outer s H vs Q E hr h => ?_)
  · obtain ⟨i, j, rfl, _⟩ := h
    rfl
  · obtain ⟨i, j, rfl, k⟩ := h
    refine ⟨_, (pss_one (ps_ret (pe_and (pe_callB call_isi (by rfl) T.n_isinstance (by decide +kernel) (pa_cons (pv 0) (pa_cons (pe_bltn (v := .ty "int") (u := .type "int") (by rfl) T.n_int (by decide +kernel) rfl) pa_nil))) (pe_and (pe_not (pe_callB call_isi (by rfl) T.n_isinstance (by decide +kernel) (pa_cons (pv 0) (pa_cons (pe_bltn (v := .ty "bool") (u := .type "bool") (by rfl) T.n_bool (by decide +kernel) rfl) pa_nil)))) (pe_one (pe_cmpR op_eq (pv 0) (pv 1) (nomark _))))))), ?_⟩
    repeat walk_at "rd"
    exact k
end

/-! ### the law of k83 -/
def Asked (M : Addr) (H : Hp) (m t : Addr) (o l g : Int) : Prop := MachAt M H m o l g ∧ Num o l g ∧ H t = some (.tup [.int o, .int l, .int g])
def spFewestL : Sp := fun vs H Q _ => ∃ (t : Addr) (tm c o l g : Int), vs = [.ref t, .int tm, .int c] ∧ H t = some (.tup [.int o, .int l, .int g]) ∧ Num o l g ∧
  (∀ (n : Nat) H', 1 ≤ n → n ≤ 40 → (∀ cs ks, SlowR (slL o l) (slG o g) (n - 1) cs ks → c ≤ GS o ks tm) → (∀ m : Nat, 1 ≤ m → m < n → ∀ cs ks, SlowR (slL o l) (slG o g) (m - 1) cs ks → GS o ks tm < c) → Same H H' → Q (.int n) H') ∧
  ∀ H', (∀ m : Nat, 1 ≤ m → m ≤ 40 → ∀ cs ks, SlowR (slL o l) (slG o g) (m - 1) cs ks → GS o ks tm < c) → Same H H' → Q .non H'
def spTimeRight (M : Addr) : Sp := fun vs H Q _ => ∃ (m t : Addr) (n : Nat) (c o l g : Int), vs = [.ref m, .ref t, .int n, .int c] ∧ Asked M H m t o l g ∧ 1 ≤ n ∧ n ≤ 40 ∧ 1 ≤ c ∧ c ≤ 1000000000000 ∧ TbsOk H ∧ ∀ H', Same H H' → Q (.bl true) H'
def spHandsRight (M : Addr) : Sp := fun vs H Q _ => ∃ (m t : Addr) (tm c o l g : Int), vs = [.ref m, .ref t, .int tm, .int c] ∧ Asked M H m t o l g ∧ 0 ≤ tm ∧ tm ≤ 1000000000000 ∧ 1 ≤ c ∧ c ≤ 1000000000000 ∧ ∀ H', Same H H' → Q (.bl true) H'
def spGrows (M : Addr) : Sp := fun vs H Q _ => ∃ (m t : Addr) (n : Nat) (tm o l g : Int), vs = [.ref m, .ref t, .int n, .int tm] ∧ Asked M H m t o l g ∧ 1 ≤ n ∧ n ≤ 40 ∧ 0 ≤ tm ∧ tm ≤ 1000000000000 ∧ ∀ H', Same H H' → Q (.bl true) H'
theorem Asked.keep {M : Addr} {H H' : Hp} {m t : Addr} {o l g : Int} (h : Asked M H m t o l g) (s : Same H H') : Asked M H' m t o l g := ⟨h.1.keep s, h.2.1, s _ _ h.2.2⟩
section
variable {P : Program} {w : World} {K : PySem.W.Frag} {mg : Str → Option Value} {base : Heap} {a : Adr}
theorem ok__law_fewest (T : Txt K mg base a) : FnOk P w K mg base CX0 2 a.a__law_fewest a.d__law_fewest ["_law_numbers_here", "_law_time", "_law_count"] spFewestL := by
  refine T.F__law_fewest.ok sc__law_fewest (fun vs H Q E h => ?_) (fun cdv A outer s H vs Q E hr h => ?_)
  · obtain ⟨t, tm, c, o, l, g, rfl, _⟩ := h
    rfl
  · obtain ⟨t, tm, c, o, l, g, rfl, et, N, k1, k2⟩ := h
    refine ⟨_, (pss_cons (ps_set (i := 3) sc__law_fewest.nd rfl (Or.inl rfl) (pe_call (ok__law_known T) (hr.mono (by decide)) (by rfl) T.g__law_known T.F__law_known.kp T.b__law_known .nil pass0 (pa_cons (pv 0) (pa_cons pe_int pa_nil))))
 (pss_cons (ps_set (i := 4) sc__law_fewest.nd rfl (Or.inl rfl) (pe_op op_add (pv 1) pe_int))
 (pss_cons (ps_for (by exact PassesOwn.never) rfl (pi_range2 (by rfl) T.n_range (pa_cons pe_int (pa_cons pe_int pa_nil))) (pg_name (i := 5) sc__law_fewest.nd rfl (Or.inl rfl))
 (pss_cons (ps_if (PW.pt (pw_and (pt_cmpR op_gt (pv 5) pe_int (nomark _)) (pw_and1 (pt_cmpR op_gt (pe_op op_sub (pv 1) (pe_ix ix_list (pv 3) (pe_op op_sub (pv 5) pe_int) (fun _ _ => rfl))) (pe_ix ix_tup (pv 0) pe_int (fun _ _ => rfl)) (nomark _))))) (pss_one (ps_aug (i := 4) sc__law_fewest.nd rfl (Or.inl rfl) (pe_op op_sub (pe_op op_sub (pv 1) (pe_ix ix_list (pv 3) (pe_op op_sub (pv 5) pe_int) (fun _ _ => rfl))) (pe_ix ix_tup (pv 0) pe_int (fun _ _ => rfl))) ip_add))
 pss_nil)
 (pss_one (ps_if (pt_cmpR op_ge (pv 4) (pv 2) (nomark _)) (pss_one (ps_ret (pv 5)))
 pss_nil))))
 (pss_one (ps_ret pe_non))))), ?_⟩
    repeat walk_at "rd"
    refine ⟨t, 40, o, l, g, rfl, et, N, by decide, by decide, fun p cs ks H1 hR s1 ep => ?_⟩
    have et := s1 _ _ et
    have hlk := hR.len.2
    have hpre : ∀ {n : Nat} {cs' ks' : List Int}, n < 40 → SlowR (slL o l) (slG o g) n cs' ks' → ks' = ks.take n := fun {n cs' ks'} hn h => h.prefix (m := 39 - n) (by rw [show n + (39 - n) = 40 - 1 by omega]; exact hR)
    repeat walk_at "rd"
    refine ⟨by decide, for_range (lo := 1) (n := 40) (fun i σ H' => ∃ v5 : Option V, σ = [some (.ref t), some (.int tm), some (.int c), some (.ref p), some (.int (GS o (ks.take (i - 1)) tm)), v5] ∧ H' = H1 ∧ ∀ m : Nat, 1 ≤ m → m ≤ i → GS o (ks.take (m - 1)) tm < c) ⟨_, by rw [List.take_zero]; unfold GS; simp; rfl, rfl, fun m h1 h2 => absurd h1 (by omega)⟩ ?_ ?_⟩
    · rintro i σ H2 hi ⟨v5, rfl, rfl, hno⟩
      rw [show (1 : Int) + (i : Nat) = ((i + 1 : Nat) : Int) by omega]
      walk_at "rd"
      with_reducible refine seq_with (fun σ H' => σ = [some (.ref t), some (.int tm), some (.int c), some (.ref p), some (.int (GS o (ks.take i) tm)), some (.int ((i + 1 : Nat) : Int))] ∧ H' = H2) ?_ (fun rest => ?_)
      · rintro σ H3 ⟨rfl, rfl⟩
        repeat walk_at "rd"
        refine ite_d (fun hc => ?_) (fun hc => ?_)
        · repeat walk_at "rd"
          refine k1 (i + 1) _ (by omega) (by omega) (fun cs' ks' h => ?_) (fun m h1 h2 cs' ks' h => ?_) s1
          · rw [hpre (by omega) h]
            exact hc
          · rw [hpre (by omega) h]
            exact hno m h1 (by omega)
        · repeat walk_at "rd"
          refine ⟨_, rfl, rfl, fun m h1 h2 => ?_⟩
          by_cases e : m ≤ i
          · exact hno m h1 e
          · obtain rfl : m = i + 1 := by omega
            show GS o (ks.take i) tm < c
            omega
      · cases i with
        | zero => repeat first | exact rest _ _ ⟨rfl, rfl⟩ | walk_at "rd"
        | succ i =>
          obtain ⟨z, hz⟩ : ∃ z, ks[i]? = some z := ⟨_, List.getElem?_eq_getElem (by omega)⟩
          have hg : GS o (ks.take (i + 1)) tm = GS o (ks.take i) tm + posP (tm - z - o) := by rw [take_more hz, GS_snoc]
          rw [hg] at rest
          have hat : atI ((0 :: ks).map V.int) (((i + 1 + 1 : Nat) : Int) - 1) = some (.int z) := by
            rw [show ((i + 1 + 1 : Nat) : Int) - 1 = ((i + 1 : Nat) : Int) by omega]
            exact atI_nat (by rw [List.map_cons, List.getElem?_cons_succ, List.getElem?_map, hz]; rfl)
          rw [show i + 1 - 1 = i from rfl]
          repeat walk_at "rd"
          refine ite_tt (by omega) ?_
          repeat walk_at "rd"
          refine r_ixL ep hat ?_
          repeat walk_at "rd"
          refine ite_d (fun hc => ?_) (fun hc => ?_)
          · have hp : posP (tm - z - o) = tm - z - o := if_pos (by omega)
            rw [hp] at rest
            repeat walk_at "rd"
            refine r_ixL ep hat ?_
            repeat first | exact rest _ _ ⟨rfl, rfl⟩ | walk_at "rd"
          · have hp : posP (tm - z - o) = 0 := if_neg (by omega)
            rw [hp, Int.add_zero] at rest
            repeat first | exact rest _ _ ⟨rfl, rfl⟩ | walk_at "rd"
    · rintro σ H2 ⟨v5, rfl, rfl, hno⟩
      repeat walk_at "rd"
      refine k2 _ (fun m h1 h2 cs' ks' h => ?_) s1
      rw [hpre (by omega) h]
      exact hno m h1 h2
theorem ok__law_time_right (T : Txt K mg base a) : FnOk P w K mg base CX0 9 a.a__law_time_right a.d__law_time_right ["_law_machine", "_law_numbers_here", "_law_n", "_law_count"] (spTimeRight a.c_Machine) := by
  refine T.F__law_time_right.ok sc__law_time_right (fun vs H Q E h => ?_) (fun cdv A outer s H vs Q E hr h => ?_)
  · obtain ⟨m, t, n, c, o, l, g, rfl, _⟩ := h
    rfl
  · obtain ⟨m, t, n, c, o, l, g, rfl, hA, n1, n40, c1, c9, hT, k⟩ := h
    refine ⟨_, (pss_cons (ps_set (i := 4) sc__law_time_right.nd rfl (Or.inl rfl) (pe_call (ok_least_sum_time T) (hr.mono (by decide)) (by rfl) T.g_least_sum_time T.F_least_sum_time.kp T.b_least_sum_time .nil pass0 (pa_cons (pv 0) (pa_cons (pv 2) (pa_cons (pv 3) pa_nil)))))
 (pss_cons (ps_if (PW.pt (pw_or (pt_not (pt_val (pe_callB call_isi (by rfl) T.n_isinstance (by decide +kernel) (pa_cons (pv 4) (pa_cons (pe_bltn (v := .ty "int") (u := .type "int") (by rfl) T.n_int (by decide +kernel) rfl) pa_nil))))) (pw_or (pt_val (pe_callB call_isi (by rfl) T.n_isinstance (by decide +kernel) (pa_cons (pv 4) (pa_cons (pe_bltn (v := .ty "bool") (u := .type "bool") (by rfl) T.n_bool (by decide +kernel) rfl) pa_nil)))) (pw_or (pt_cmpR op_lt (pv 4) pe_int (nomark _)) (pw_or1 (pt_cmpR op_lt (pe_call (ok__law_most T) (hr.mono (by decide)) (by rfl) T.g__law_most T.F__law_most.kp T.b__law_most .nil pass0 (pa_cons (pv 1) (pa_cons (pv 2) (pa_cons (pv 4) pa_nil)))) (pv 3) (nomark _))))))) (pss_one (ps_ret pe_bl))
 pss_nil)
 (pss_one (ps_ret (pe_or (pe_cmpR op_eq (pv 4) pe_int (nomark _)) (pe_one (pe_cmpR op_lt (pe_call (ok__law_most T) (hr.mono (by decide)) (by rfl) T.g__law_most T.F__law_most.kp T.b__law_most .nil pass0 (pa_cons (pv 1) (pa_cons (pv 2) (pa_cons (pe_op op_sub (pv 4) pe_int) pa_nil)))) (pv 3) (nomark _)))))))), ?_⟩
    repeat walk_at "rd"
    refine ⟨m, n, c, o, l, g, rfl, hA.1, hA.2.1, n1, n40, c1, c9, hT, fun cs ks x H1 hR x0 xc hge hlt s1 => ?_⟩
    have hA1 := hA.keep s1
    repeat first | walk_at "rd" | walk_at "rdi"
    refine ite_ff (by omega) ?_
    repeat walk_at "rd"
    refine ⟨t, n, x, o, l, g, rfl, hA1.2.2, hA1.2.1, n1, n40, fun cs' ks' H2 hR' s2 => ?_⟩
    obtain ⟨_, rfl⟩ := hR.uniq hR'
    have hA2 := hA1.keep s2
    repeat walk_at "rd"
    refine ite_ff (by omega) ?_
    repeat walk_at "rd"
    refine ite_d (fun h0 => k _ (s1.trans s2)) (fun h0 => ?_)
    repeat walk_at "rd"
    refine ⟨t, n, x - 1, o, l, g, rfl, hA2.2.2, hA2.2.1, n1, n40, fun cs' ks' H3 hR' s3 => ?_⟩
    obtain ⟨_, rfl⟩ := hR.uniq hR'
    repeat walk_at "rd"
    rw [decide_eq_true (hlt (by omega))]
    exact k _ ((s1.trans s2).trans s3)
theorem ok__law_hands_right (T : Txt K mg base a) : FnOk P w K mg base CX0 5 a.a__law_hands_right a.d__law_hands_right ["_law_machine", "_law_numbers_here", "_law_time", "_law_count"] (spHandsRight a.c_Machine) := by
  refine T.F__law_hands_right.ok sc__law_hands_right (fun vs H Q E h => ?_) (fun cdv A outer s H vs Q E hr h => ?_)
  · obtain ⟨m, t, tm, c, o, l, g, rfl, _⟩ := h
    rfl
  · obtain ⟨m, t, tm, c, o, l, g, rfl, hA, t0, t9, c1, c9, k⟩ := h
    refine ⟨_, (pss_cons (ps_set (i := 4) sc__law_hands_right.nd rfl (Or.inl rfl) (pe_call (ok__law_fewest T) (hr.mono (by decide)) (by rfl) T.g__law_fewest T.F__law_fewest.kp T.b__law_fewest .nil pass0 (pa_cons (pv 1) (pa_cons (pv 2) (pa_cons (pv 3) pa_nil)))))
 (pss_cons (ps_set (i := 5) sc__law_hands_right.nd rfl (Or.inl rfl) (pe_call (ok_least_summers T) (hr.mono (by decide)) (by rfl) T.g_least_summers T.F_least_summers.kp T.b_least_summers .nil pass0 (pa_cons (pv 0) (pa_cons (pv 2) (pa_cons (pv 3) pa_nil)))))
 (pss_cons (ps_if (pt_cmpR op_isNo (pv 4) pe_non (nomark _)) (pss_one (ps_ret (pe_cmpR op_isNo (pv 5) pe_non (nomark _))))
 pss_nil)
 (pss_one (ps_ret (pe_call (ok__law_is T) (hr.mono (by decide)) (by rfl) T.g__law_is T.F__law_is.kp T.b__law_is .nil pass0 (pa_cons (pv 5) (pa_cons (pv 4) pa_nil)))))))), ?_⟩
    repeat walk_at "rd"
    refine ⟨t, tm, c, o, l, g, rfl, hA.2.2, hA.2.1, fun n H1 n1 n40 hge hlt s1 => ?_, fun H1 hlt s1 => ?_⟩
    · repeat walk_at "rd"
      refine ⟨m, tm, c, o, l, g, rfl, (hA.keep s1).1, hA.2.1, t0, t9, c1, c9, fun n' H2 n1' n40' hge' hlt' s2 => ?_, fun H2 hlt' s2 => ?_⟩
      · have e : n' = n := by
          obtain ⟨cs, ks, h1⟩ := SlowR.ex (slL o l) (slG o g) (n - 1)
          obtain ⟨cs', ks', h2⟩ := SlowR.ex (slL o l) (slG o g) (n' - 1)
          rcases Nat.lt_trichotomy n' n with z | z | z
          · have := hlt n' n1' z cs' ks' h2
            have := hge' cs' ks' h2
            omega
          · exact z
          · have := hlt' n n1 z cs ks h1
            have := hge cs ks h1
            omega
        subst e
        repeat first | walk_at "rd" | walk_at "rdi"
        refine ⟨n', n', rfl, ?_⟩
        rw [decide_eq_true rfl]
        exact k _ (s1.trans s2)
      · obtain ⟨cs, ks, h1⟩ := SlowR.ex (slL o l) (slG o g) (n - 1)
        have := hlt' n n1 n40 cs ks h1
        have := hge cs ks h1
        omega
    · repeat walk_at "rd"
      refine ⟨m, tm, c, o, l, g, rfl, (hA.keep s1).1, hA.2.1, t0, t9, c1, c9, fun n' H2 n1' n40' hge' hlt' s2 => ?_, fun H2 hlt' s2 => ?_⟩
      · obtain ⟨cs, ks, h1⟩ := SlowR.ex (slL o l) (slG o g) (n' - 1)
        have := hlt n' n1' n40' cs ks h1
        have := hge' cs ks h1
        omega
      · repeat first | exact k _ (s1.trans s2) | walk_at "rd" | walk_at "rdi"
theorem ok__law_grows (T : Txt K mg base a) : FnOk P w K mg base CX0 5 a.a__law_grows a.d__law_grows ["_law_machine", "_law_numbers_here", "_law_n", "_law_time"] (spGrows a.c_Machine) := by
  refine T.F__law_grows.ok sc__law_grows (fun vs H Q E h => ?_) (fun cdv A outer s H vs Q E hr h => ?_)
  · obtain ⟨m, t, n, tm, o, l, g, rfl, _⟩ := h
    rfl
  · obtain ⟨m, t, n, tm, o, l, g, rfl, hA, n1, n40, t0, t9, k⟩ := h
    refine ⟨_, (pss_cons (ps_set (i := 4) sc__law_grows.nd rfl (Or.inl rfl) (pe_call (ok_most_summed T) (hr.mono (by decide)) (by rfl) T.g_most_summed T.F_most_summed.kp T.b_most_summed .nil pass0 (pa_cons (pv 0) (pa_cons (pv 2) (pa_cons (pv 3) pa_nil)))))
 (pss_cons (ps_if (pt_not (pt_val (pe_call (ok__law_is T) (hr.mono (by decide)) (by rfl) T.g__law_is T.F__law_is.kp T.b__law_is .nil pass0 (pa_cons (pv 4) (pa_cons (pe_call (ok__law_most T) (hr.mono (by decide)) (by rfl) T.g__law_most T.F__law_most.kp T.b__law_most .nil pass0 (pa_cons (pv 1) (pa_cons (pv 2) (pa_cons (pv 3) pa_nil)))) pa_nil))))) (pss_one (ps_ret pe_bl))
 pss_nil)
 (pss_cons (ps_if (PW.pt (pw_and (pt_cmpR op_lt (pv 2) pe_int (nomark _)) (pw_and1 (pt_cmpR op_lt (pe_call (ok_most_summed T) (hr.mono (by decide)) (by rfl) T.g_most_summed T.F_most_summed.kp T.b_most_summed .nil pass0 (pa_cons (pv 0) (pa_cons (pe_op op_add (pv 2) pe_int) (pa_cons (pv 3) pa_nil)))) (pv 4) (nomark _))))) (pss_one (ps_ret pe_bl))
 pss_nil)
 (pss_one (ps_ret (pe_or (pe_cmpR op_eq (pv 3) (pe_powN (z := 1000000000000) ⟨by decide, by decide, by decide⟩ (by decide +kernel)) (nomark _)) (pe_one (pe_chain op_le op_le pe_int (pe_op op_sub (pe_call (ok_most_summed T) (hr.mono (by decide)) (by rfl) T.g_most_summed T.F_most_summed.kp T.b_most_summed .nil pass0 (pa_cons (pv 0) (pa_cons (pv 2) (pa_cons (pe_op op_add (pv 3) pe_int) pa_nil)))) (pv 4)) (pv 2))))))))), ?_⟩
    repeat walk_at "rd"
    refine ⟨m, n, tm, o, l, g, rfl, hA.1, hA.2.1, n1, n40, t0, t9, fun cs ks H1 hR s1 => ?_⟩
    have hA1 := hA.keep s1
    repeat first | walk_at "rd" | walk_at "rdi"
    refine ⟨t, n, tm, o, l, g, rfl, hA1.2.2, hA1.2.1, n1, n40, fun cs' ks' H2 hR' s2 => ?_⟩
    obtain ⟨_, rfl⟩ := hR.uniq hR'
    have hA2 := hA1.keep s2
    repeat walk_at "rd"
    refine ⟨_, _, rfl, ?_⟩
    rw [decide_eq_true rfl]
    repeat walk_at "rd"
    with_reducible refine seq_with (fun σ H' => σ = [some (.ref m), some (.ref t), some (.int n), some (.int tm), some (.int (GS o ks tm))] ∧ Same H H') ?_ (fun rest => ?_)
    · rintro σ H3 ⟨rfl, s3⟩
      repeat walk_at "rd"
      refine ite_d (fun hc => k _ s3) (fun hc => ?_)
      repeat walk_at "rd"
      refine ⟨m, n, tm + 1, o, l, g, rfl, (hA.keep s3).1, hA.2.1, n1, n40, by omega, by omega, fun cs' ks' H4 hR' s4 => ?_⟩
      obtain ⟨_, rfl⟩ := hR.uniq hR'
      have hup := GS_up (o := o) (t := tm) ks
      have hlk := hR.len.2
      repeat walk_at "rd"
      refine ite_tt (by omega) ?_
      repeat walk_at "rd"
      rw [decide_eq_true (show GS o ks (tm + 1) - GS o ks tm ≤ n by omega)]
      exact k _ (s3.trans s4)
    · have s12 := s1.trans s2
      repeat walk_at "rd"
      refine ite_d (fun hc => ?_) (fun hc => (by repeat first | exact rest _ _ ⟨rfl, s12⟩ | walk_at "rd"))
      repeat walk_at "rd"
      rw [show (n : Int) + 1 = ((n + 1 : Nat) : Int) by omega]
      refine ⟨m, n + 1, tm, o, l, g, rfl, hA2.1, hA.2.1, by omega, by omega, t0, t9, fun cs' ks' H3 hR' s3 => ?_⟩
      have hge : GS o ks tm ≤ GS o ks' tm := by
        obtain ⟨j, hj⟩ : ∃ j, n = j + 1 := ⟨n - 1, by omega⟩
        subst hj
        obtain ⟨cs2, ks2, c2, h2, rfl⟩ := SlowR.back (j := j) hR'
        obtain ⟨_, rfl⟩ := hR.uniq h2
        rw [GS_snoc]
        have := posP_nn (tm - c2 - o)
        omega
      repeat walk_at "rd"
      refine ite_ff (by omega) ?_
      repeat first | exact rest _ _ ⟨rfl, s12.trans s3⟩ | walk_at "rd"
end
theorem four_of {d : Int} (d0 : 0 ≤ d) (d1 : d < 4) : ∃ z : Int, atI [V.int 40, .int 400, .int 1000000, .int 1000000000000] d = some (.int z) ∧ 40 ≤ z ∧ z ≤ 1000000000000 := by
  have hk : d = 0 ∨ d = 1 ∨ d = 2 ∨ d = 3 := by omega
  rcases hk with rfl | rfl | rfl | rfl <;> exact ⟨_, rfl, by decide, by decide⟩
section
variable {P : Program} {w : World} {K : PySem.W.Frag} {mg : Str → Option Value} {base : Heap} {a : Adr}
set_option maxHeartbeats 0 in
theorem ok_law (T : Txt K mg base a) : FnOk P w K mg base CX0 13 a.a_law a.d_law ["_law_script"] (spLawT (spLaw K)) := by
  refine T.F_law.ok sc_law (fun vs H Q E h => ?_) (fun cdv A0 outer s H vs Q E hr h => ?_)
  · obtain ⟨_, b, ns, rfl, _⟩ := h
    rfl
  · obtain ⟨hT, b, ns, rfl, hS, hl, k⟩ := h
    refine ⟨_, (pss_cons (ps_set (i := 1) sc_law.nd rfl (Or.inl rfl) (pe_call (ok__law_source T) (hr.mono (by decide)) (by rfl) T.g__law_source T.F__law_source.kp T.b__law_source .nil pass0 (pa_cons (pv 0) pa_nil)))
 (pss_cons (ps_set (i := 2) sc_law.nd rfl (Or.inl rfl) (pe_call (ok__law_small T) (hr.mono (by decide)) (by rfl) T.g__law_small T.F__law_small.kp T.b__law_small .nil pass0 (pa_cons (pv 1) pa_nil)))
 (pss_cons (ps_if (pt_cmpR op_eq (pe_call (ok__law_draw T) (hr.mono (by decide)) (by rfl) T.g__law_draw T.F__law_draw.kp T.b__law_draw .nil pass0 (pa_cons (pv 1) (pa_cons pe_int pa_nil))) pe_int (nomark _)) (pss_one (ps_set (i := 2) sc_law.nd rfl (Or.inl rfl) (pe_call (ok__law_numbers T) (hr.mono (by decide)) (by rfl) T.g__law_numbers T.F__law_numbers.kp T.b__law_numbers .nil pass0 (pa_cons (pv 1) pa_nil))))
 pss_nil)
 (pss_cons (ps_set (i := 3) sc_law.nd rfl (Or.inl rfl) (pe_make T.mk_Machine (ok_Machine_init T) (hr.mono (by decide)) (by rfl) T.g_Machine T.b_Machine_init .nil pass0 (pa_cons (pe_ix ix_tup (pv 2) pe_int (fun _ _ => rfl)) (pa_cons (pe_ix ix_tup (pv 2) pe_int (fun _ _ => rfl)) (pa_cons (pe_ix ix_tup (pv 2) pe_int (fun _ _ => rfl)) pa_nil)))))
 (pss_cons (ps_for (by exact PassesOwn.never) rfl (pi_range1 (by rfl) T.n_range (pa_cons pe_int pa_nil)) (pg_name (i := 4) sc_law.nd rfl (Or.inl rfl))
 (pss_cons (ps_set (i := 5) sc_law.nd rfl (Or.inl rfl) (pe_op op_add pe_int (pe_call (ok__law_draw T) (hr.mono (by decide)) (by rfl) T.g__law_draw T.F__law_draw.kp T.b__law_draw .nil pass0 (pa_cons (pv 1) (pa_cons pe_int pa_nil)))))
 (pss_cons (ps_set (i := 6) sc_law.nd rfl (Or.inl rfl) (pe_ix ix_list (pe_lst (pa_cons pe_int (pa_cons pe_int (pa_cons (pe_powN (z := 1000000) ⟨by decide, by decide, by decide⟩ (by decide +kernel)) (pa_cons (pe_powN (z := 1000000000000) ⟨by decide, by decide, by decide⟩ (by decide +kernel)) pa_nil))))) (pe_call (ok__law_draw T) (hr.mono (by decide)) (by rfl) T.g__law_draw T.F__law_draw.kp T.b__law_draw .nil pass0 (pa_cons (pv 1) (pa_cons pe_int pa_nil))) (fun _ _ => rfl)))
 (pss_cons (ps_set (i := 7) sc_law.nd rfl (Or.inl rfl) (pe_call (ok__law_big T) (hr.mono (by decide)) (by rfl) T.g__law_big T.F__law_big.kp T.b__law_big .nil pass0 (pa_cons (pv 1) (pa_cons (pe_op op_add (pv 6) pe_int) pa_nil))))
 (pss_cons (ps_set (i := 8) sc_law.nd rfl (Or.inl rfl) (pe_op op_add pe_int (pe_call (ok__law_big T) (hr.mono (by decide)) (by rfl) T.g__law_big T.F__law_big.kp T.b__law_big .nil pass0 (pa_cons (pv 1) (pa_cons (pv 6) pa_nil)))))
 (pss_cons (ps_if (pt_cmpR op_eq (pe_call (ok__law_draw T) (hr.mono (by decide)) (by rfl) T.g__law_draw T.F__law_draw.kp T.b__law_draw .nil pass0 (pa_cons (pv 1) (pa_cons pe_int pa_nil))) pe_int (nomark _)) (pss_one (ps_set (i := 8) sc_law.nd rfl (Or.inl rfl) (pe_callB (call_min2 rfl) (by rfl) T.n_min (by decide +kernel) (pa_cons (pe_powN (z := 1000000000000) ⟨by decide, by decide, by decide⟩ (by decide +kernel)) (pa_cons (pe_op op_sub (pe_op op_add (pe_call (ok__law_most T) (hr.mono (by decide)) (by rfl) T.g__law_most T.F__law_most.kp T.b__law_most .nil pass0 (pa_cons (pv 2) (pa_cons (pv 5) (pa_cons (pv 7) pa_nil)))) (pe_call (ok__law_draw T) (hr.mono (by decide)) (by rfl) T.g__law_draw T.F__law_draw.kp T.b__law_draw .nil pass0 (pa_cons (pv 1) (pa_cons pe_int pa_nil)))) pe_int) pa_nil)))))
 pss_nil)
 (pss_cons (ps_set (i := 8) sc_law.nd rfl (Or.inl rfl) (pe_callB (call_max2 rfl) (by rfl) T.n_max (by decide +kernel) (pa_cons pe_int (pa_cons (pv 8) pa_nil))))
 (pss_cons (ps_if (PW.pt (pw_or (pt_not (pt_val (pe_call (ok__law_time_right T) (hr.mono (by decide)) (by rfl) T.g__law_time_right T.F__law_time_right.kp T.b__law_time_right .nil pass0 (pa_cons (pv 3) (pa_cons (pv 2) (pa_cons (pv 5) (pa_cons (pv 8) pa_nil))))))) (pw_or1 (pt_not (pt_val (pe_call (ok__law_hands_right T) (hr.mono (by decide)) (by rfl) T.g__law_hands_right T.F__law_hands_right.kp T.b__law_hands_right .nil pass0 (pa_cons (pv 3) (pa_cons (pv 2) (pa_cons (pv 7) (pa_cons (pv 8) pa_nil)))))))))) (pss_one (ps_ret pe_bl))
 pss_nil)
 (pss_one (ps_if (pt_not (pt_val (pe_call (ok__law_grows T) (hr.mono (by decide)) (by rfl) T.g__law_grows T.F__law_grows.kp T.b__law_grows .nil pass0 (pa_cons (pv 3) (pa_cons (pv 2) (pa_cons (pv 5) (pa_cons (pv 7) pa_nil))))))) (pss_one (ps_ret pe_bl))
 pss_nil))))))))))
 (pss_one (ps_ret pe_bl))))))), ?_⟩
    repeat walk_at "rd"
    refine ⟨b, ns, rfl, hS, hl, fun p q H0 hs0 np nq s0 => ?_⟩
    have hT := s0.ts hT
    repeat walk_at "rd"
    refine ⟨p, q, rfl, hs0, fun t o l g H1 N1 n1 hs1 b1 => ?_⟩
    have hT := b1.tabs hs0 hT
    have e1 := N1.at_
    have N := N1.num
    have ntp := hs0.ne n1
    clear b1 hs0 s0 N1 n1
    repeat walk_at "rd"
    with_reducible refine seq_with (fun σ H' => ∃ (t : Addr) (o l g : Int), σ = [some (.ref b), some (.ref p), some (.ref t), none, none, none, none, none, none] ∧ SrcAt H' p q ∧ TbsOk H' ∧ Num o l g ∧ t ≠ p ∧ H' t = some (.tup [.int o, .int l, .int g])) ?_ (fun rest => ?_)
    · clear hs1 hT e1 N ntp
      rintro σ H2 ⟨t, o, l, g, rfl, hs, hT, N, ntp, et⟩
      repeat walk_at "rd"
      refine r_Machine N.no N.nl N.ng N.np (fun m H3 nm hm s3 => ?_)
      have hmp : m ≠ p := hs.ne nm
      have hs := hs.keep s3
      have hT := s3.ts hT
      have et := s3 _ _ et
      clear s3 nm
      repeat walk_at "rd"
      refine ⟨by decide, by decide, for_range (lo := 0) (n := 5) (fun i σ H' => ∃ (v4 v5 v6 v7 v8 : Option V), σ = [some (.ref b), some (.ref p), some (.ref t), some (.ref m), v4, v5, v6, v7, v8] ∧ SrcAt H' p q ∧ TbsOk H' ∧ Asked a.c_Machine H' m t o l g) ⟨_, _, _, _, _, rfl, hs, hT, hm, N, et⟩ ?_ ?_⟩
      · clear hs hT hm et
        rintro i σ H4 hi ⟨v4, v5, v6, v7, v8, rfl, hs, hT, hm, _, et⟩
        repeat walk_at "rd"
        refine ⟨p, q, 40, rfl, hs, by decide, by decide, fun d H5 d0 d1 hs5 b5 => ?_⟩
        obtain ⟨n, hn, n1, n40⟩ : ∃ n : Nat, 1 + d = (n : Int) ∧ 1 ≤ n ∧ n ≤ 40 := ⟨(1 + d).toNat, by omega, by omega, by omega⟩
        have hm := hm.but b5 hmp
        have et := b5 _ _ et ntp
        have hT := b5.tabs hs hT
        clear hs b5 d0 d1
        repeat walk_at "rd"
        rw [hn]
        refine new_at (Nat.le_of_ble_eq_true rfl) (fun L H6 nL s6 eL => ?_)
        have hs6 := hs5.keep s6
        have nLp := hs5.ne nL
        have hm := hm.keep s6
        have et := s6 _ _ et
        have hT := s6.ts hT
        clear hs5 s6 nL
        repeat walk_at "rd"
        refine ⟨p, q, 4, rfl, hs6, by decide, by decide, fun d2 H7 d20 d21 hs7 b7 => ?_⟩
        obtain ⟨top, hat, top0, top9⟩ := four_of d20 d21
        refine r_ixL (b7 _ _ eL nLp) hat ?_
        have hm := hm.but b7 hmp
        have et := b7 _ _ et ntp
        have hT := b7.tabs hs6 hT
        clear hs6 b7 d20 d21 eL hat
        repeat walk_at "rd"
        refine ⟨p, q, top + 1, rfl, hs7, by omega, fun tm H8 tm0 tm9 hs8 b8 => ?_⟩
        have hm := hm.but b8 hmp
        have et := b8 _ _ et ntp
        have hT := b8.tabs hs7 hT
        clear hs7 b8
        repeat walk_at "rd"
        refine ⟨p, q, top, rfl, hs8, by omega, fun c0 H9 c00 c09 hs9 b9 => ?_⟩
        have hm := hm.but b9 hmp
        have et := b9 _ _ et ntp
        have hT := b9.tabs hs8 hT
        clear hs8 b9
        repeat walk_at "rd"
        with_reducible refine seq_with (fun σ H' => ∃ (c : Int), σ = [some (.ref b), some (.ref p), some (.ref t), some (.ref m), some (.int (0 + (i : Nat))), some (.int n), some (.int top), some (.int tm), some (.int c)] ∧ c ≤ 1000000000000 ∧ SrcAt H' p q ∧ TbsOk H' ∧ Asked a.c_Machine H' m t o l g) ?_ (fun rest => ?_)
        · clear hs9 hT hm et
          rintro σ H10 ⟨c, rfl, c9, hs, hT, hA⟩
          repeat walk_at "rd"
          obtain ⟨c2, hc2, c21, c29⟩ : ∃ c2 : Int, (if c > 1 then c else 1) = c2 ∧ 1 ≤ c2 ∧ c2 ≤ 1000000000000 := ⟨_, rfl, by split <;> omega, by split <;> omega⟩
          rw [hc2]
          repeat first | walk_at "rd" | walk_at "rdi"
          refine ⟨m, t, n, c2, o, l, g, rfl, hA, n1, n40, c21, c29, hT, fun H11 s11 => ?_⟩
          have hA := hA.keep s11
          have hT := s11.ts hT
          have hs := hs.keep s11
          repeat first | walk_at "rd" | walk_at "rdi"
          refine ⟨m, t, tm, c2, o, l, g, rfl, hA, tm0, by omega, c21, c29, fun H12 s12 => ?_⟩
          have hA := hA.keep s12
          have hT := s12.ts hT
          have hs := hs.keep s12
          repeat first | walk_at "rd" | walk_at "rdi"
          refine ⟨m, t, n, tm, o, l, g, rfl, hA, n1, n40, tm0, by omega, fun H13 s13 => ?_⟩
          have hA := hA.keep s13
          have hT := s13.ts hT
          have hs := hs.keep s13
          repeat first | exact ⟨_, _, _, _, _, rfl, hs, hT, hA⟩ | walk_at "rd" | walk_at "rdi"
        · repeat walk_at "rd"
          refine ⟨p, q, 2, rfl, hs9, by decide, by decide, fun d3 H10 d30 d31 hs10 b10 => ?_⟩
          have hm := hm.but b10 hmp
          have et := b10 _ _ et ntp
          have hT := b10.tabs hs9 hT
          repeat walk_at "rd"
          refine ite_d (fun hc => ?_) (fun hc => (by repeat first | exact rest _ _ ⟨_, rfl, by omega, hs10, hT, hm, N, et⟩ | walk_at "rd"))
          repeat walk_at "rd"
          refine ⟨t, n, tm, o, l, g, rfl, et, N, n1, n40, fun cs ks H11 hR s11 => ?_⟩
          have hm := hm.keep s11
          have et := s11 _ _ et
          have hT := s11.ts hT
          have hs11 := hs10.keep s11
          repeat walk_at "rd"
          refine ⟨p, q, 3, rfl, hs11, by decide, by decide, fun d4 H12 d40 d41 hs12 b12 => ?_⟩
          have hm := hm.but b12 hmp
          have et := b12 _ _ et ntp
          have hT := b12.tabs hs11 hT
          repeat first | exact rest _ _ ⟨_, rfl, by split <;> omega, hs12, hT, hm, N, et⟩ | walk_at "rd"
      · rintro σ H4 ⟨v4, v5, v6, v7, v8, rfl, hs, hT, hA⟩
        repeat walk_at "rd"
        exact k _
    · repeat walk_at "rd"
      refine ⟨p, q, 3, rfl, hs1, by decide, by decide, fun d H2 d0 d1 hs2 b2 => ?_⟩
      have hT := b2.tabs hs1 hT
      have e1 := b2 _ _ e1 ntp
      repeat walk_at "rd"
      refine ite_d (fun hc => ?_) (fun hc => (by repeat first | exact rest _ _ ⟨t, o, l, g, rfl, hs2, hT, N, ntp, e1⟩ | walk_at "rd"))
      repeat walk_at "rd"
      refine ⟨p, q, rfl, hs2, fun t2 o2 l2 g2 H3 N3 n3 hs3 b3 => ?_⟩
      repeat first | exact rest _ _ ⟨t2, o2, l2, g2, rfl, hs3, b3.tabs hs2 hT, N3.num, hs2.ne n3, N3.at_⟩ | walk_at "rd"
end

end My
namespace My
open PySem L2
set_option maxHeartbeats 2000000 in
theorem all_mk {l : PySem.W.OpenLaw} {w : World} {K : PySem.W.Frag} {h : Heap} {mg : Str → Option Value} {fa : Addr} (X : K.In h) (G : h.Ns mainGlobals mg) (hfa : mg "law" = some (.ref fa))
    {c_Machine : Addr} {oc_is_integer : Value} {od_is_integer : Option Addr} {an_is_integer : Option Addr} {sl_is_integer : Array (Option Value)} {kV_is_integer : Value} {dc_is_integer : Value} {pm_is_integer : Value} {cd_is_integer : Value} {ct_is_integer : Value} {f_is_integer : Addr} {oc_is_between : Value} {od_is_between : Option Addr} {an_is_between : Option Addr} {sl_is_between : Array (Option Value)} {kV_is_between : Value} {dc_is_between : Value} {pm_is_between : Value} {cd_is_between : Value} {ct_is_between : Value} {f_is_between : Addr} {oc_check_count : Value} {od_check_count : Option Addr} {an_check_count : Option Addr} {sl_check_count : Array (Option Value)} {kV_check_count : Value} {dc_check_count : Value} {pm_check_count : Value} {cd_check_count : Value} {ct_check_count : Value} {f_check_count : Addr} {oc_check_time : Value} {od_check_time : Option Addr} {an_check_time : Option Addr} {sl_check_time : Array (Option Value)} {kV_check_time : Value} {dc_check_time : Value} {pm_check_time : Value} {cd_check_time : Value} {ct_check_time : Value} {f_check_time : Addr} {oc_least_where : Value} {od_least_where : Option Addr} {an_least_where : Option Addr} {sl_least_where : Array (Option Value)} {kV_least_where : Value} {dc_least_where : Value} {pm_least_where : Value} {cd_least_where : Value} {ct_least_where : Value} {f_least_where : Addr} {oc_Machine_init : Value} {od_Machine_init : Option Addr} {an_Machine_init : Option Addr} {sl_Machine_init : Array (Option Value)} {kV_Machine_init : Value} {dc_Machine_init : Value} {pm_Machine_init : Value} {cd_Machine_init : Value} {ct_Machine_init : Value} {f_Machine_init : Addr} {oc_slow_tree : Value} {od_slow_tree : Option Addr} {an_slow_tree : Option Addr} {sl_slow_tree : Array (Option Value)} {kV_slow_tree : Value} {dc_slow_tree : Value} {pm_slow_tree : Value} {cd_slow_tree : Value} {ct_slow_tree : Value} {f_slow_tree : Addr} {oc_greatest_sum : Value} {od_greatest_sum : Option Addr} {an_greatest_sum : Option Addr} {sl_greatest_sum : Array (Option Value)} {kV_greatest_sum : Value} {dc_greatest_sum : Value} {pm_greatest_sum : Value} {cd_greatest_sum : Value} {ct_greatest_sum : Value} {f_greatest_sum : Addr} {oc_most_summed : Value} {od_most_summed : Option Addr} {an_most_summed : Option Addr} {sl_most_summed : Array (Option Value)} {kV_most_summed : Value} {dc_most_summed : Value} {pm_most_summed : Value} {cd_most_summed : Value} {ct_most_summed : Value} {f_most_summed : Addr} {oc_least_sum_time : Value} {od_least_sum_time : Option Addr} {an_least_sum_time : Option Addr} {sl_least_sum_time : Array (Option Value)} {kV_least_sum_time : Value} {dc_least_sum_time : Value} {pm_least_sum_time : Value} {k_least_sum_time : Addr} {ct_least_sum_time : Value} {f_least_sum_time : Addr} {oc_least_summers : Value} {od_least_summers : Option Addr} {an_least_summers : Option Addr} {sl_least_summers : Array (Option Value)} {kV_least_summers : Value} {dc_least_summers : Value} {pm_least_summers : Value} {cd_least_summers : Value} {ct_least_summers : Value} {f_least_summers : Addr} {oc__law_source : Value} {od__law_source : Option Addr} {an__law_source : Option Addr} {sl__law_source : Array (Option Value)} {kV__law_source : Value} {dc__law_source : Value} {pm__law_source : Value} {cd__law_source : Value} {ct__law_source : Value} {f__law_source : Addr} {oc__law_draw : Value} {od__law_draw : Option Addr} {an__law_draw : Option Addr} {sl__law_draw : Array (Option Value)} {kV__law_draw : Value} {dc__law_draw : Value} {pm__law_draw : Value} {cd__law_draw : Value} {ct__law_draw : Value} {f__law_draw : Addr} {oc__law_big : Value} {od__law_big : Option Addr} {an__law_big : Option Addr} {sl__law_big : Array (Option Value)} {kV__law_big : Value} {dc__law_big : Value} {pm__law_big : Value} {cd__law_big : Value} {ct__law_big : Value} {f__law_big : Addr} {oc__law_numbers : Value} {od__law_numbers : Option Addr} {an__law_numbers : Option Addr} {sl__law_numbers : Array (Option Value)} {kV__law_numbers : Value} {dc__law_numbers : Value} {pm__law_numbers : Value} {cd__law_numbers : Value} {ct__law_numbers : Value} {f__law_numbers : Addr} {oc__law_small : Value} {od__law_small : Option Addr} {an__law_small : Option Addr} {sl__law_small : Array (Option Value)} {kV__law_small : Value} {dc__law_small : Value} {pm__law_small : Value} {cd__law_small : Value} {ct__law_small : Value} {f__law_small : Addr} {oc__law_is : Value} {od__law_is : Option Addr} {an__law_is : Option Addr} {sl__law_is : Array (Option Value)} {kV__law_is : Value} {dc__law_is : Value} {pm__law_is : Value} {cd__law_is : Value} {ct__law_is : Value} {f__law_is : Addr} {oc__law_known : Value} {od__law_known : Option Addr} {an__law_known : Option Addr} {sl__law_known : Array (Option Value)} {kV__law_known : Value} {dc__law_known : Value} {pm__law_known : Value} {cd__law_known : Value} {ct__law_known : Value} {f__law_known : Addr} {oc__law_most : Value} {od__law_most : Option Addr} {an__law_most : Option Addr} {sl__law_most : Array (Option Value)} {kV__law_most : Value} {dc__law_most : Value} {pm__law_most : Value} {cd__law_most : Value} {ct__law_most : Value} {f__law_most : Addr} {oc__law_fewest : Value} {od__law_fewest : Option Addr} {an__law_fewest : Option Addr} {sl__law_fewest : Array (Option Value)} {kV__law_fewest : Value} {dc__law_fewest : Value} {pm__law_fewest : Value} {cd__law_fewest : Value} {ct__law_fewest : Value} {f__law_fewest : Addr} {oc__law_time_right : Value} {od__law_time_right : Option Addr} {an__law_time_right : Option Addr} {sl__law_time_right : Array (Option Value)} {kV__law_time_right : Value} {dc__law_time_right : Value} {pm__law_time_right : Value} {cd__law_time_right : Value} {ct__law_time_right : Value} {f__law_time_right : Addr} {oc__law_hands_right : Value} {od__law_hands_right : Option Addr} {an__law_hands_right : Option Addr} {sl__law_hands_right : Array (Option Value)} {kV__law_hands_right : Value} {dc__law_hands_right : Value} {pm__law_hands_right : Value} {cd__law_hands_right : Value} {ct__law_hands_right : Value} {f__law_hands_right : Addr} {oc__law_grows : Value} {od__law_grows : Option Addr} {an__law_grows : Option Addr} {sl__law_grows : Array (Option Value)} {kV__law_grows : Value} {dc__law_grows : Value} {pm__law_grows : Value} {cd__law_grows : Value} {ct__law_grows : Value} {f__law_grows : Addr} {oc_law : Value} {od_law : Option Addr} {an_law : Option Addr} {sl_law : Array (Option Value)} {kV_law : Value} {dc_law : Value} {pm_law : Value} {cd_law : Value} {ct_law : Value} {f_law : Addr} {t_MOST_SHARING : Tok} {t_GREATEST_PART : Tok} {t_LATEST_SUM : Tok} {t_MOST_ASKED : Tok} {tb_least_sum_time : Addr} {kc_least_sum_time : Value} {kd_least_sum_time : Option Addr} {kvs_least_sum_time : Array Value} {ksl_least_sum_time : Array (Option Value)}
    (H_g_Machine : PySem.W.nsIn K mainGlobals "Machine" = some (some (.ref c_Machine)))
    (H_a_is_integer : PySem.W.nsIn K mainGlobals "is_integer" = some (some (.ref f_is_integer)))
    (H_l_is_integer : K.lookup f_is_integer = some ⟨oc_is_integer, od_is_integer, .func (PySem.W.fnOf "is_integer" "is_integer" (defArgs s_is_integer) (defBody s_is_integer) (defScope s_is_integer) .none kV_is_integer dc_is_integer pm_is_integer an_is_integer cd_is_integer ct_is_integer), sl_is_integer⟩)
    (H_c_is_integer : PySem.W.codeIn K cd_is_integer "is_integer" = true)
    (H_k_is_integer : PySem.W.keepIn K (.ref f_is_integer) = true)
    (H_a_is_between : PySem.W.nsIn K mainGlobals "is_between" = some (some (.ref f_is_between)))
    (H_l_is_between : K.lookup f_is_between = some ⟨oc_is_between, od_is_between, .func (PySem.W.fnOf "is_between" "is_between" (defArgs s_is_between) (defBody s_is_between) (defScope s_is_between) .none kV_is_between dc_is_between pm_is_between an_is_between cd_is_between ct_is_between), sl_is_between⟩)
    (H_c_is_between : PySem.W.codeIn K cd_is_between "is_between" = true)
    (H_k_is_between : PySem.W.keepIn K (.ref f_is_between) = true)
    (H_a_check_count : PySem.W.nsIn K mainGlobals "check_count" = some (some (.ref f_check_count)))
    (H_l_check_count : K.lookup f_check_count = some ⟨oc_check_count, od_check_count, .func (PySem.W.fnOf "check_count" "check_count" (defArgs s_check_count) (defBody s_check_count) (defScope s_check_count) .none kV_check_count dc_check_count pm_check_count an_check_count cd_check_count ct_check_count), sl_check_count⟩)
    (H_c_check_count : PySem.W.codeIn K cd_check_count "check_count" = true)
    (H_k_check_count : PySem.W.keepIn K (.ref f_check_count) = true)
    (H_a_check_time : PySem.W.nsIn K mainGlobals "check_time" = some (some (.ref f_check_time)))
    (H_l_check_time : K.lookup f_check_time = some ⟨oc_check_time, od_check_time, .func (PySem.W.fnOf "check_time" "check_time" (defArgs s_check_time) (defBody s_check_time) (defScope s_check_time) .none kV_check_time dc_check_time pm_check_time an_check_time cd_check_time ct_check_time), sl_check_time⟩)
    (H_c_check_time : PySem.W.codeIn K cd_check_time "check_time" = true)
    (H_k_check_time : PySem.W.keepIn K (.ref f_check_time) = true)
    (H_a_least_where : PySem.W.nsIn K mainGlobals "least_where" = some (some (.ref f_least_where)))
    (H_l_least_where : K.lookup f_least_where = some ⟨oc_least_where, od_least_where, .func (PySem.W.fnOf "least_where" "least_where" (defArgs s_least_where) (defBody s_least_where) (defScope s_least_where) .none kV_least_where dc_least_where pm_least_where an_least_where cd_least_where ct_least_where), sl_least_where⟩)
    (H_c_least_where : PySem.W.codeIn K cd_least_where "least_where" = true)
    (H_k_least_where : PySem.W.keepIn K (.ref f_least_where) = true)
    (H_a_Machine_init : PySem.W.findIn K (.ref c_Machine) "__init__" = some (some (.ref f_Machine_init)))
    (H_i_Machine_init : PySem.W.isFn K (.ref f_Machine_init) = true)
    (H_l_Machine_init : K.lookup f_Machine_init = some ⟨oc_Machine_init, od_Machine_init, .func (PySem.W.fnOf "__init__" "Machine.__init__" (defArgs s_Machine_init) (defBody s_Machine_init) (defScope s_Machine_init) .none kV_Machine_init dc_Machine_init pm_Machine_init an_Machine_init cd_Machine_init ct_Machine_init), sl_Machine_init⟩)
    (H_c_Machine_init : PySem.W.codeIn K cd_Machine_init "Machine.__init__" = true)
    (H_k_Machine_init : PySem.W.keepIn K (.ref f_Machine_init) = true)
    (H_a_slow_tree : PySem.W.nsIn K mainGlobals "slow_tree" = some (some (.ref f_slow_tree)))
    (H_l_slow_tree : K.lookup f_slow_tree = some ⟨oc_slow_tree, od_slow_tree, .func (PySem.W.fnOf "slow_tree" "slow_tree" (defArgs s_slow_tree) (defBody s_slow_tree) (defScope s_slow_tree) .none kV_slow_tree dc_slow_tree pm_slow_tree an_slow_tree cd_slow_tree ct_slow_tree), sl_slow_tree⟩)
    (H_c_slow_tree : PySem.W.codeIn K cd_slow_tree "slow_tree" = true)
    (H_k_slow_tree : PySem.W.keepIn K (.ref f_slow_tree) = true)
    (H_a_greatest_sum : PySem.W.nsIn K mainGlobals "greatest_sum" = some (some (.ref f_greatest_sum)))
    (H_l_greatest_sum : K.lookup f_greatest_sum = some ⟨oc_greatest_sum, od_greatest_sum, .func (PySem.W.fnOf "greatest_sum" "greatest_sum" (defArgs s_greatest_sum) (defBody s_greatest_sum) (defScope s_greatest_sum) .none kV_greatest_sum dc_greatest_sum pm_greatest_sum an_greatest_sum cd_greatest_sum ct_greatest_sum), sl_greatest_sum⟩)
    (H_c_greatest_sum : PySem.W.codeIn K cd_greatest_sum "greatest_sum" = true)
    (H_k_greatest_sum : PySem.W.keepIn K (.ref f_greatest_sum) = true)
    (H_a_most_summed : PySem.W.nsIn K mainGlobals "most_summed" = some (some (.ref f_most_summed)))
    (H_l_most_summed : K.lookup f_most_summed = some ⟨oc_most_summed, od_most_summed, .func (PySem.W.fnOf "most_summed" "most_summed" (defArgs s_most_summed) (defBody s_most_summed) (defScope s_most_summed) .none kV_most_summed dc_most_summed pm_most_summed an_most_summed cd_most_summed ct_most_summed), sl_most_summed⟩)
    (H_c_most_summed : PySem.W.codeIn K cd_most_summed "most_summed" = true)
    (H_k_most_summed : PySem.W.keepIn K (.ref f_most_summed) = true)
    (H_a_least_sum_time : PySem.W.nsIn K mainGlobals "least_sum_time" = some (some (.ref f_least_sum_time)))
    (H_l_least_sum_time : K.lookup f_least_sum_time = some ⟨oc_least_sum_time, od_least_sum_time, .func (PySem.W.fnOf "least_sum_time" "least_sum_time" (defArgs s_least_sum_time) (defBody s_least_sum_time) (defScope s_least_sum_time) .none kV_least_sum_time dc_least_sum_time pm_least_sum_time an_least_sum_time (.ref k_least_sum_time) ct_least_sum_time), sl_least_sum_time⟩)
    (H_c_least_sum_time : PySem.W.codeIn K (.ref k_least_sum_time) "least_sum_time" = true)
    (H_k_least_sum_time : PySem.W.keepIn K (.ref f_least_sum_time) = true)
    (H_a_least_summers : PySem.W.nsIn K mainGlobals "least_summers" = some (some (.ref f_least_summers)))
    (H_l_least_summers : K.lookup f_least_summers = some ⟨oc_least_summers, od_least_summers, .func (PySem.W.fnOf "least_summers" "least_summers" (defArgs s_least_summers) (defBody s_least_summers) (defScope s_least_summers) .none kV_least_summers dc_least_summers pm_least_summers an_least_summers cd_least_summers ct_least_summers), sl_least_summers⟩)
    (H_c_least_summers : PySem.W.codeIn K cd_least_summers "least_summers" = true)
    (H_k_least_summers : PySem.W.keepIn K (.ref f_least_summers) = true)
    (H_a__law_source : PySem.W.nsIn K mainGlobals "_law_source" = some (some (.ref f__law_source)))
    (H_l__law_source : K.lookup f__law_source = some ⟨oc__law_source, od__law_source, .func (PySem.W.fnOf "_law_source" "_law_source" (defArgs s__law_source) (defBody s__law_source) (defScope s__law_source) .none kV__law_source dc__law_source pm__law_source an__law_source cd__law_source ct__law_source), sl__law_source⟩)
    (H_c__law_source : PySem.W.codeIn K cd__law_source "_law_source" = true)
    (H_k__law_source : PySem.W.keepIn K (.ref f__law_source) = true)
    (H_a__law_draw : PySem.W.nsIn K mainGlobals "_law_draw" = some (some (.ref f__law_draw)))
    (H_l__law_draw : K.lookup f__law_draw = some ⟨oc__law_draw, od__law_draw, .func (PySem.W.fnOf "_law_draw" "_law_draw" (defArgs s__law_draw) (defBody s__law_draw) (defScope s__law_draw) .none kV__law_draw dc__law_draw pm__law_draw an__law_draw cd__law_draw ct__law_draw), sl__law_draw⟩)
    (H_c__law_draw : PySem.W.codeIn K cd__law_draw "_law_draw" = true)
    (H_k__law_draw : PySem.W.keepIn K (.ref f__law_draw) = true)
    (H_a__law_big : PySem.W.nsIn K mainGlobals "_law_big" = some (some (.ref f__law_big)))
    (H_l__law_big : K.lookup f__law_big = some ⟨oc__law_big, od__law_big, .func (PySem.W.fnOf "_law_big" "_law_big" (defArgs s__law_big) (defBody s__law_big) (defScope s__law_big) .none kV__law_big dc__law_big pm__law_big an__law_big cd__law_big ct__law_big), sl__law_big⟩)
    (H_c__law_big : PySem.W.codeIn K cd__law_big "_law_big" = true)
    (H_k__law_big : PySem.W.keepIn K (.ref f__law_big) = true)
    (H_a__law_numbers : PySem.W.nsIn K mainGlobals "_law_numbers" = some (some (.ref f__law_numbers)))
    (H_l__law_numbers : K.lookup f__law_numbers = some ⟨oc__law_numbers, od__law_numbers, .func (PySem.W.fnOf "_law_numbers" "_law_numbers" (defArgs s__law_numbers) (defBody s__law_numbers) (defScope s__law_numbers) .none kV__law_numbers dc__law_numbers pm__law_numbers an__law_numbers cd__law_numbers ct__law_numbers), sl__law_numbers⟩)
    (H_c__law_numbers : PySem.W.codeIn K cd__law_numbers "_law_numbers" = true)
    (H_k__law_numbers : PySem.W.keepIn K (.ref f__law_numbers) = true)
    (H_a__law_small : PySem.W.nsIn K mainGlobals "_law_small" = some (some (.ref f__law_small)))
    (H_l__law_small : K.lookup f__law_small = some ⟨oc__law_small, od__law_small, .func (PySem.W.fnOf "_law_small" "_law_small" (defArgs s__law_small) (defBody s__law_small) (defScope s__law_small) .none kV__law_small dc__law_small pm__law_small an__law_small cd__law_small ct__law_small), sl__law_small⟩)
    (H_c__law_small : PySem.W.codeIn K cd__law_small "_law_small" = true)
    (H_k__law_small : PySem.W.keepIn K (.ref f__law_small) = true)
    (H_a__law_is : PySem.W.nsIn K mainGlobals "_law_is" = some (some (.ref f__law_is)))
    (H_l__law_is : K.lookup f__law_is = some ⟨oc__law_is, od__law_is, .func (PySem.W.fnOf "_law_is" "_law_is" (defArgs s__law_is) (defBody s__law_is) (defScope s__law_is) .none kV__law_is dc__law_is pm__law_is an__law_is cd__law_is ct__law_is), sl__law_is⟩)
    (H_c__law_is : PySem.W.codeIn K cd__law_is "_law_is" = true)
    (H_k__law_is : PySem.W.keepIn K (.ref f__law_is) = true)
    (H_a__law_known : PySem.W.nsIn K mainGlobals "_law_known" = some (some (.ref f__law_known)))
    (H_l__law_known : K.lookup f__law_known = some ⟨oc__law_known, od__law_known, .func (PySem.W.fnOf "_law_known" "_law_known" (defArgs s__law_known) (defBody s__law_known) (defScope s__law_known) .none kV__law_known dc__law_known pm__law_known an__law_known cd__law_known ct__law_known), sl__law_known⟩)
    (H_c__law_known : PySem.W.codeIn K cd__law_known "_law_known" = true)
    (H_k__law_known : PySem.W.keepIn K (.ref f__law_known) = true)
    (H_a__law_most : PySem.W.nsIn K mainGlobals "_law_most" = some (some (.ref f__law_most)))
    (H_l__law_most : K.lookup f__law_most = some ⟨oc__law_most, od__law_most, .func (PySem.W.fnOf "_law_most" "_law_most" (defArgs s__law_most) (defBody s__law_most) (defScope s__law_most) .none kV__law_most dc__law_most pm__law_most an__law_most cd__law_most ct__law_most), sl__law_most⟩)
    (H_c__law_most : PySem.W.codeIn K cd__law_most "_law_most" = true)
    (H_k__law_most : PySem.W.keepIn K (.ref f__law_most) = true)
    (H_a__law_fewest : PySem.W.nsIn K mainGlobals "_law_fewest" = some (some (.ref f__law_fewest)))
    (H_l__law_fewest : K.lookup f__law_fewest = some ⟨oc__law_fewest, od__law_fewest, .func (PySem.W.fnOf "_law_fewest" "_law_fewest" (defArgs s__law_fewest) (defBody s__law_fewest) (defScope s__law_fewest) .none kV__law_fewest dc__law_fewest pm__law_fewest an__law_fewest cd__law_fewest ct__law_fewest), sl__law_fewest⟩)
    (H_c__law_fewest : PySem.W.codeIn K cd__law_fewest "_law_fewest" = true)
    (H_k__law_fewest : PySem.W.keepIn K (.ref f__law_fewest) = true)
    (H_a__law_time_right : PySem.W.nsIn K mainGlobals "_law_time_right" = some (some (.ref f__law_time_right)))
    (H_l__law_time_right : K.lookup f__law_time_right = some ⟨oc__law_time_right, od__law_time_right, .func (PySem.W.fnOf "_law_time_right" "_law_time_right" (defArgs s__law_time_right) (defBody s__law_time_right) (defScope s__law_time_right) .none kV__law_time_right dc__law_time_right pm__law_time_right an__law_time_right cd__law_time_right ct__law_time_right), sl__law_time_right⟩)
    (H_c__law_time_right : PySem.W.codeIn K cd__law_time_right "_law_time_right" = true)
    (H_k__law_time_right : PySem.W.keepIn K (.ref f__law_time_right) = true)
    (H_a__law_hands_right : PySem.W.nsIn K mainGlobals "_law_hands_right" = some (some (.ref f__law_hands_right)))
    (H_l__law_hands_right : K.lookup f__law_hands_right = some ⟨oc__law_hands_right, od__law_hands_right, .func (PySem.W.fnOf "_law_hands_right" "_law_hands_right" (defArgs s__law_hands_right) (defBody s__law_hands_right) (defScope s__law_hands_right) .none kV__law_hands_right dc__law_hands_right pm__law_hands_right an__law_hands_right cd__law_hands_right ct__law_hands_right), sl__law_hands_right⟩)
    (H_c__law_hands_right : PySem.W.codeIn K cd__law_hands_right "_law_hands_right" = true)
    (H_k__law_hands_right : PySem.W.keepIn K (.ref f__law_hands_right) = true)
    (H_a__law_grows : PySem.W.nsIn K mainGlobals "_law_grows" = some (some (.ref f__law_grows)))
    (H_l__law_grows : K.lookup f__law_grows = some ⟨oc__law_grows, od__law_grows, .func (PySem.W.fnOf "_law_grows" "_law_grows" (defArgs s__law_grows) (defBody s__law_grows) (defScope s__law_grows) .none kV__law_grows dc__law_grows pm__law_grows an__law_grows cd__law_grows ct__law_grows), sl__law_grows⟩)
    (H_c__law_grows : PySem.W.codeIn K cd__law_grows "_law_grows" = true)
    (H_k__law_grows : PySem.W.keepIn K (.ref f__law_grows) = true)
    (H_a_law : PySem.W.nsIn K mainGlobals "law" = some (some (.ref f_law)))
    (H_l_law : K.lookup f_law = some ⟨oc_law, od_law, .func (PySem.W.fnOf "law" "law" (defArgs s_law) (defBody s_law) (defScope s_law) .none kV_law dc_law pm_law an_law cd_law ct_law), sl_law⟩)
    (H_c_law : PySem.W.codeIn K cd_law "law" = true)
    (H_k_law : PySem.W.keepIn K (.ref f_law) = true)
    (H_pg_Machine : PySem.W.plainGet K c_Machine Str.empty = true)
    (H_hd_Machine : PySem.W.hasDictIn K c_Machine = true)
    (H_po_Machine : PySem.W.plainOver K c_Machine = true)
    (H_sa_Machine : PySem.W.findIn K (.ref c_Machine) "__setattr__" = some (some (.builtin "object.__setattr__")))
    (H_mk_Machine : PySem.W.makesIn K c_Machine = true)
    (H_kc_Machine : PySem.W.keepIn K (.ref c_Machine) = true)
    (H_nF_Machine_o : PySem.W.findIn K (.ref c_Machine) "o" = some none)
    (H_nF_Machine_l : PySem.W.findIn K (.ref c_Machine) "l" = some none)
    (H_nF_Machine_g : PySem.W.findIn K (.ref c_Machine) "g" = some none)
    (H_nF_Machine_letter : PySem.W.findIn K (.ref c_Machine) "letter" = some none)
    (H_nF_Machine_gap : PySem.W.findIn K (.ref c_Machine) "gap" = some none)
    (H_n_bool : PySem.W.nsIn K mainGlobals "bool" = some none)
    (H_n_int : PySem.W.nsIn K mainGlobals "int" = some none)
    (H_n_isinstance : PySem.W.nsIn K mainGlobals "isinstance" = some none)
    (H_n_len : PySem.W.nsIn K mainGlobals "len" = some none)
    (H_n_max : PySem.W.nsIn K mainGlobals "max" = some none)
    (H_n_min : PySem.W.nsIn K mainGlobals "min" = some none)
    (H_n_range : PySem.W.nsIn K mainGlobals "range" = some none)
    (H_n_sum : PySem.W.nsIn K mainGlobals "sum" = some none)
    (H_x_MOST_SHARING : PySem.W.nsIn K mainGlobals "MOST_SHARING" = some (some (.int 40 t_MOST_SHARING)))
    (H_x_GREATEST_PART : PySem.W.nsIn K mainGlobals "GREATEST_PART" = some (some (.int 1000000000 t_GREATEST_PART)))
    (H_x_LATEST_SUM : PySem.W.nsIn K mainGlobals "LATEST_SUM" = some (some (.int 1000000000000 t_LATEST_SUM)))
    (H_x_MOST_ASKED : PySem.W.nsIn K mainGlobals "MOST_ASKED" = some (some (.int 1000000000000 t_MOST_ASKED)))
    (H_heappush : PySem.W.nsIn K mainGlobals "heappush" = some (some (.builtin "_heapq.heappush")))
    (H_heappop : PySem.W.nsIn K mainGlobals "heappop" = some (some (.builtin "_heapq.heappop")))
    (H_kl_least_sum_time : K.lookup k_least_sum_time = some ⟨kc_least_sum_time, kd_least_sum_time, .fields kvs_least_sum_time, ksl_least_sum_time⟩)
    (H_kt_least_sum_time : kvs_least_sum_time[11]? = some (.ref tb_least_sum_time))
    (H_kh_least_sum_time : PySem.W.codeHdIn K k_least_sum_time tb_least_sum_time = true)
    (H_kn_least_sum_time : K.lookup tb_least_sum_time = none)
    (H_kg_least_sum_time : h.get? tb_least_sum_time = some { cls := .none, data := .fields #[] })
    : LamX.LawAtS l w K CX0 13 63 "_law_script" mg fa h := by
  have e := hfa.symm.trans (PySem.W.mg_of X G H_a_law)
  cases e
  letI tn : Tn := ⟨[(tb_least_sum_time, (("least_sum_time" ++ ".<locals>." : Str) ++ "<lambda>"))]⟩
  let a : Adr := { a_is_integer := f_is_integer, d_is_integer := PySem.W.fnOf "is_integer" "is_integer" (defArgs s_is_integer) (defBody s_is_integer) (defScope s_is_integer) .none kV_is_integer dc_is_integer pm_is_integer an_is_integer cd_is_integer ct_is_integer, a_is_between := f_is_between, d_is_between := PySem.W.fnOf "is_between" "is_between" (defArgs s_is_between) (defBody s_is_between) (defScope s_is_between) .none kV_is_between dc_is_between pm_is_between an_is_between cd_is_between ct_is_between, a_check_count := f_check_count, d_check_count := PySem.W.fnOf "check_count" "check_count" (defArgs s_check_count) (defBody s_check_count) (defScope s_check_count) .none kV_check_count dc_check_count pm_check_count an_check_count cd_check_count ct_check_count, a_check_time := f_check_time, d_check_time := PySem.W.fnOf "check_time" "check_time" (defArgs s_check_time) (defBody s_check_time) (defScope s_check_time) .none kV_check_time dc_check_time pm_check_time an_check_time cd_check_time ct_check_time, a_least_where := f_least_where, d_least_where := PySem.W.fnOf "least_where" "least_where" (defArgs s_least_where) (defBody s_least_where) (defScope s_least_where) .none kV_least_where dc_least_where pm_least_where an_least_where cd_least_where ct_least_where, a_Machine_init := f_Machine_init, d_Machine_init := PySem.W.fnOf "__init__" "Machine.__init__" (defArgs s_Machine_init) (defBody s_Machine_init) (defScope s_Machine_init) .none kV_Machine_init dc_Machine_init pm_Machine_init an_Machine_init cd_Machine_init ct_Machine_init, a_slow_tree := f_slow_tree, d_slow_tree := PySem.W.fnOf "slow_tree" "slow_tree" (defArgs s_slow_tree) (defBody s_slow_tree) (defScope s_slow_tree) .none kV_slow_tree dc_slow_tree pm_slow_tree an_slow_tree cd_slow_tree ct_slow_tree, a_greatest_sum := f_greatest_sum, d_greatest_sum := PySem.W.fnOf "greatest_sum" "greatest_sum" (defArgs s_greatest_sum) (defBody s_greatest_sum) (defScope s_greatest_sum) .none kV_greatest_sum dc_greatest_sum pm_greatest_sum an_greatest_sum cd_greatest_sum ct_greatest_sum, a_most_summed := f_most_summed, d_most_summed := PySem.W.fnOf "most_summed" "most_summed" (defArgs s_most_summed) (defBody s_most_summed) (defScope s_most_summed) .none kV_most_summed dc_most_summed pm_most_summed an_most_summed cd_most_summed ct_most_summed, a_least_sum_time := f_least_sum_time, d_least_sum_time := PySem.W.fnOf "least_sum_time" "least_sum_time" (defArgs s_least_sum_time) (defBody s_least_sum_time) (defScope s_least_sum_time) .none kV_least_sum_time dc_least_sum_time pm_least_sum_time an_least_sum_time (.ref k_least_sum_time) ct_least_sum_time, a_least_summers := f_least_summers, d_least_summers := PySem.W.fnOf "least_summers" "least_summers" (defArgs s_least_summers) (defBody s_least_summers) (defScope s_least_summers) .none kV_least_summers dc_least_summers pm_least_summers an_least_summers cd_least_summers ct_least_summers, a__law_source := f__law_source, d__law_source := PySem.W.fnOf "_law_source" "_law_source" (defArgs s__law_source) (defBody s__law_source) (defScope s__law_source) .none kV__law_source dc__law_source pm__law_source an__law_source cd__law_source ct__law_source, a__law_draw := f__law_draw, d__law_draw := PySem.W.fnOf "_law_draw" "_law_draw" (defArgs s__law_draw) (defBody s__law_draw) (defScope s__law_draw) .none kV__law_draw dc__law_draw pm__law_draw an__law_draw cd__law_draw ct__law_draw, a__law_big := f__law_big, d__law_big := PySem.W.fnOf "_law_big" "_law_big" (defArgs s__law_big) (defBody s__law_big) (defScope s__law_big) .none kV__law_big dc__law_big pm__law_big an__law_big cd__law_big ct__law_big, a__law_numbers := f__law_numbers, d__law_numbers := PySem.W.fnOf "_law_numbers" "_law_numbers" (defArgs s__law_numbers) (defBody s__law_numbers) (defScope s__law_numbers) .none kV__law_numbers dc__law_numbers pm__law_numbers an__law_numbers cd__law_numbers ct__law_numbers, a__law_small := f__law_small, d__law_small := PySem.W.fnOf "_law_small" "_law_small" (defArgs s__law_small) (defBody s__law_small) (defScope s__law_small) .none kV__law_small dc__law_small pm__law_small an__law_small cd__law_small ct__law_small, a__law_is := f__law_is, d__law_is := PySem.W.fnOf "_law_is" "_law_is" (defArgs s__law_is) (defBody s__law_is) (defScope s__law_is) .none kV__law_is dc__law_is pm__law_is an__law_is cd__law_is ct__law_is, a__law_known := f__law_known, d__law_known := PySem.W.fnOf "_law_known" "_law_known" (defArgs s__law_known) (defBody s__law_known) (defScope s__law_known) .none kV__law_known dc__law_known pm__law_known an__law_known cd__law_known ct__law_known, a__law_most := f__law_most, d__law_most := PySem.W.fnOf "_law_most" "_law_most" (defArgs s__law_most) (defBody s__law_most) (defScope s__law_most) .none kV__law_most dc__law_most pm__law_most an__law_most cd__law_most ct__law_most, a__law_fewest := f__law_fewest, d__law_fewest := PySem.W.fnOf "_law_fewest" "_law_fewest" (defArgs s__law_fewest) (defBody s__law_fewest) (defScope s__law_fewest) .none kV__law_fewest dc__law_fewest pm__law_fewest an__law_fewest cd__law_fewest ct__law_fewest, a__law_time_right := f__law_time_right, d__law_time_right := PySem.W.fnOf "_law_time_right" "_law_time_right" (defArgs s__law_time_right) (defBody s__law_time_right) (defScope s__law_time_right) .none kV__law_time_right dc__law_time_right pm__law_time_right an__law_time_right cd__law_time_right ct__law_time_right, a__law_hands_right := f__law_hands_right, d__law_hands_right := PySem.W.fnOf "_law_hands_right" "_law_hands_right" (defArgs s__law_hands_right) (defBody s__law_hands_right) (defScope s__law_hands_right) .none kV__law_hands_right dc__law_hands_right pm__law_hands_right an__law_hands_right cd__law_hands_right ct__law_hands_right, a__law_grows := f__law_grows, d__law_grows := PySem.W.fnOf "_law_grows" "_law_grows" (defArgs s__law_grows) (defBody s__law_grows) (defScope s__law_grows) .none kV__law_grows dc__law_grows pm__law_grows an__law_grows cd__law_grows ct__law_grows, a_law := fa, d_law := PySem.W.fnOf "law" "law" (defArgs s_law) (defBody s_law) (defScope s_law) .none kV_law dc_law pm_law an_law cd_law ct_law, c_Machine := c_Machine, k_least_sum_time := k_least_sum_time, tb_least_sum_time := tb_least_sum_time }
  have F_is_integer := fun_mk (st := s_is_integer) H_l_is_integer H_c_is_integer H_k_is_integer
  have F_is_between := fun_mk (st := s_is_between) H_l_is_between H_c_is_between H_k_is_between
  have F_check_count := fun_mk (st := s_check_count) H_l_check_count H_c_check_count H_k_check_count
  have F_check_time := fun_mk (st := s_check_time) H_l_check_time H_c_check_time H_k_check_time
  have F_least_where := fun_mk (st := s_least_where) H_l_least_where H_c_least_where H_k_least_where
  have F_Machine_init := fun_mk (st := s_Machine_init) H_l_Machine_init H_c_Machine_init H_k_Machine_init
  have F_slow_tree := fun_mk (st := s_slow_tree) H_l_slow_tree H_c_slow_tree H_k_slow_tree
  have F_greatest_sum := fun_mk (st := s_greatest_sum) H_l_greatest_sum H_c_greatest_sum H_k_greatest_sum
  have F_most_summed := fun_mk (st := s_most_summed) H_l_most_summed H_c_most_summed H_k_most_summed
  have F_least_sum_time := func_mk (st := s_least_sum_time) H_l_least_sum_time H_c_least_sum_time H_k_least_sum_time
  have F_least_summers := fun_mk (st := s_least_summers) H_l_least_summers H_c_least_summers H_k_least_summers
  have F__law_source := fun_mk (st := s__law_source) H_l__law_source H_c__law_source H_k__law_source
  have F__law_draw := fun_mk (st := s__law_draw) H_l__law_draw H_c__law_draw H_k__law_draw
  have F__law_big := fun_mk (st := s__law_big) H_l__law_big H_c__law_big H_k__law_big
  have F__law_numbers := fun_mk (st := s__law_numbers) H_l__law_numbers H_c__law_numbers H_k__law_numbers
  have F__law_small := fun_mk (st := s__law_small) H_l__law_small H_c__law_small H_k__law_small
  have F__law_is := fun_mk (st := s__law_is) H_l__law_is H_c__law_is H_k__law_is
  have F__law_known := fun_mk (st := s__law_known) H_l__law_known H_c__law_known H_k__law_known
  have F__law_most := fun_mk (st := s__law_most) H_l__law_most H_c__law_most H_k__law_most
  have F__law_fewest := fun_mk (st := s__law_fewest) H_l__law_fewest H_c__law_fewest H_k__law_fewest
  have F__law_time_right := fun_mk (st := s__law_time_right) H_l__law_time_right H_c__law_time_right H_k__law_time_right
  have F__law_hands_right := fun_mk (st := s__law_hands_right) H_l__law_hands_right H_c__law_hands_right H_k__law_hands_right
  have F__law_grows := fun_mk (st := s__law_grows) H_l__law_grows H_c__law_grows H_k__law_grows
  have F_law := fun_mk (st := s_law) H_l_law H_c_law H_k_law
  have T : ∀ base : Heap, (∀ p ∈ ([(k_least_sum_time, tb_least_sum_time)] : List (Addr × Addr)), LamX.TabB base mg p.1 p.2) → Txt K mg base a := fun base hB => {
    F_is_integer := F_is_integer,
    b_is_integer := F_is_integer.binds (ps := ["thing"]) fun _ _ _ _ _ _ us hl => match us, hl with | [_], _ => rfl,
    g_is_integer := PySem.W.mg_of X G H_a_is_integer,
    F_is_between := F_is_between,
    b_is_between := F_is_between.binds (ps := ["thing", "low", "high"]) fun _ _ _ _ _ _ us hl => match us, hl with | [_, _, _], _ => rfl,
    g_is_between := PySem.W.mg_of X G H_a_is_between,
    F_check_count := F_check_count,
    b_check_count := F_check_count.binds (ps := ["count", "low", "high"]) fun _ _ _ _ _ _ us hl => match us, hl with | [_, _, _], _ => rfl,
    g_check_count := PySem.W.mg_of X G H_a_check_count,
    F_check_time := F_check_time,
    b_check_time := F_check_time.binds (ps := ["time", "latest"]) fun _ _ _ _ _ _ us hl => match us, hl with | [_, _], _ => rfl,
    g_check_time := PySem.W.mg_of X G H_a_check_time,
    F_least_where := F_least_where,
    b_least_where := F_least_where.binds (ps := ["low", "high", "holds"]) fun _ _ _ _ _ _ us hl => match us, hl with | [_, _, _], _ => rfl,
    g_least_where := PySem.W.mg_of X G H_a_least_where,
    F_Machine_init := F_Machine_init,
    b_Machine_init := F_Machine_init.binds (ps := ["self", "o", "l", "g"]) fun _ _ _ _ _ _ us hl => match us, hl with | [_, _, _, _], _ => rfl,
    mk_Machine := ⟨H_mk_Machine, H_a_Machine_init, H_i_Machine_init, H_kc_Machine⟩,
    F_slow_tree := F_slow_tree,
    b_slow_tree := F_slow_tree.binds (ps := ["machine", "n"]) fun _ _ _ _ _ _ us hl => match us, hl with | [_, _], _ => rfl,
    g_slow_tree := PySem.W.mg_of X G H_a_slow_tree,
    F_greatest_sum := F_greatest_sum,
    b_greatest_sum := F_greatest_sum.binds (ps := ["machine", "n", "time"]) fun _ _ _ _ _ _ us hl => match us, hl with | [_, _, _], _ => rfl,
    g_greatest_sum := PySem.W.mg_of X G H_a_greatest_sum,
    F_most_summed := F_most_summed,
    b_most_summed := F_most_summed.binds (ps := ["machine", "n", "time"]) fun _ _ _ _ _ _ us hl => match us, hl with | [_, _, _], _ => rfl,
    g_most_summed := PySem.W.mg_of X G H_a_most_summed,
    F_least_sum_time := F_least_sum_time,
    b_least_sum_time := F_least_sum_time.toFun.binds (ps := ["machine", "n", "count"]) fun _ _ _ _ _ _ us hl => match us, hl with | [_, _, _], _ => rfl,
    g_least_sum_time := PySem.W.mg_of X G H_a_least_sum_time,
    F_least_summers := F_least_summers,
    b_least_summers := F_least_summers.binds (ps := ["machine", "time", "count"]) fun _ _ _ _ _ _ us hl => match us, hl with | [_, _, _], _ => rfl,
    g_least_summers := PySem.W.mg_of X G H_a_least_summers,
    F__law_source := F__law_source,
    b__law_source := F__law_source.binds (ps := ["_law_script"]) fun _ _ _ _ _ _ us hl => match us, hl with | [_], _ => rfl,
    g__law_source := PySem.W.mg_of X G H_a__law_source,
    F__law_draw := F__law_draw,
    b__law_draw := F__law_draw.binds (ps := ["_law_source_here", "_law_limit"]) fun _ _ _ _ _ _ us hl => match us, hl with | [_, _], _ => rfl,
    g__law_draw := PySem.W.mg_of X G H_a__law_draw,
    F__law_big := F__law_big,
    b__law_big := F__law_big.binds (ps := ["_law_source_here", "_law_limit"]) fun _ _ _ _ _ _ us hl => match us, hl with | [_, _], _ => rfl,
    g__law_big := PySem.W.mg_of X G H_a__law_big,
    F__law_numbers := F__law_numbers,
    b__law_numbers := F__law_numbers.binds (ps := ["_law_source_here"]) fun _ _ _ _ _ _ us hl => match us, hl with | [_], _ => rfl,
    g__law_numbers := PySem.W.mg_of X G H_a__law_numbers,
    F__law_small := F__law_small,
    b__law_small := F__law_small.binds (ps := ["_law_source_here"]) fun _ _ _ _ _ _ us hl => match us, hl with | [_], _ => rfl,
    g__law_small := PySem.W.mg_of X G H_a__law_small,
    F__law_is := F__law_is,
    b__law_is := F__law_is.binds (ps := ["_law_thing", "_law_due"]) fun _ _ _ _ _ _ us hl => match us, hl with | [_, _], _ => rfl,
    g__law_is := PySem.W.mg_of X G H_a__law_is,
    F__law_known := F__law_known,
    b__law_known := F__law_known.binds (ps := ["_law_numbers_here", "_law_n"]) fun _ _ _ _ _ _ us hl => match us, hl with | [_, _], _ => rfl,
    g__law_known := PySem.W.mg_of X G H_a__law_known,
    F__law_most := F__law_most,
    b__law_most := F__law_most.binds (ps := ["_law_numbers_here", "_law_n", "_law_time"]) fun _ _ _ _ _ _ us hl => match us, hl with | [_, _, _], _ => rfl,
    g__law_most := PySem.W.mg_of X G H_a__law_most,
    F__law_fewest := F__law_fewest,
    b__law_fewest := F__law_fewest.binds (ps := ["_law_numbers_here", "_law_time", "_law_count"]) fun _ _ _ _ _ _ us hl => match us, hl with | [_, _, _], _ => rfl,
    g__law_fewest := PySem.W.mg_of X G H_a__law_fewest,
    F__law_time_right := F__law_time_right,
    b__law_time_right := F__law_time_right.binds (ps := ["_law_machine", "_law_numbers_here", "_law_n", "_law_count"]) fun _ _ _ _ _ _ us hl => match us, hl with | [_, _, _, _], _ => rfl,
    g__law_time_right := PySem.W.mg_of X G H_a__law_time_right,
    F__law_hands_right := F__law_hands_right,
    b__law_hands_right := F__law_hands_right.binds (ps := ["_law_machine", "_law_numbers_here", "_law_time", "_law_count"]) fun _ _ _ _ _ _ us hl => match us, hl with | [_, _, _, _], _ => rfl,
    g__law_hands_right := PySem.W.mg_of X G H_a__law_hands_right,
    F__law_grows := F__law_grows,
    b__law_grows := F__law_grows.binds (ps := ["_law_machine", "_law_numbers_here", "_law_n", "_law_time"]) fun _ _ _ _ _ _ us hl => match us, hl with | [_, _, _, _], _ => rfl,
    g__law_grows := PySem.W.mg_of X G H_a__law_grows,
    F_law := F_law,
    b_law := F_law.binds (ps := ["_law_script"]) fun _ _ _ _ _ _ us hl => match us, hl with | [_], _ => rfl,
    g_law := PySem.W.mg_of X G H_a_law,
    g_Machine := PySem.W.mg_of X G H_g_Machine,
    cl_Machine := ⟨H_pg_Machine, H_hd_Machine, H_po_Machine, H_sa_Machine⟩,
    nF_Machine_o := H_nF_Machine_o,
    nF_Machine_l := H_nF_Machine_l,
    nF_Machine_g := H_nF_Machine_g,
    nF_Machine_letter := H_nF_Machine_letter,
    nF_Machine_gap := H_nF_Machine_gap,
    n_bool := PySem.W.mg_none_of X G H_n_bool,
    n_int := PySem.W.mg_none_of X G H_n_int,
    n_isinstance := PySem.W.mg_none_of X G H_n_isinstance,
    n_len := PySem.W.mg_none_of X G H_n_len,
    n_max := PySem.W.mg_none_of X G H_n_max,
    n_min := PySem.W.mg_none_of X G H_n_min,
    n_range := PySem.W.mg_none_of X G H_n_range,
    n_sum := PySem.W.mg_none_of X G H_n_sum,
    g_MOST_SHARING := ⟨_, PySem.W.mg_of X G H_x_MOST_SHARING⟩,
    g_GREATEST_PART := ⟨_, PySem.W.mg_of X G H_x_GREATEST_PART⟩,
    g_LATEST_SUM := ⟨_, PySem.W.mg_of X G H_x_LATEST_SUM⟩,
    g_MOST_ASKED := ⟨_, PySem.W.mg_of X G H_x_MOST_ASKED⟩,
    g_heappush := PySem.W.mg_of X G H_heappush,
    g_heappop := PySem.W.mg_of X G H_heappop,
    B_least_sum_time := hB (k_least_sum_time, tb_least_sum_time) (by simp),
    tn_least_sum_time := List.Mem.head _,
    tu_least_sum_time := fun p hp e => by
      have hp : p ∈ ([(tb_least_sum_time, (("least_sum_time" ++ ".<locals>." : Str) ++ "<lambda>"))] : List (Addr × Str)) := hp
      simp only [List.mem_cons, List.not_mem_nil, or_false] at hp
      rcases hp with rfl
      · exact rfl }
  have cs_each : ∀ {R : Addr × Addr → Prop}, R (k_least_sum_time, tb_least_sum_time) → ∀ p ∈ ([(k_least_sum_time, tb_least_sum_time)] : List (Addr × Addr)), R p := fun q p hp => by
    simp only [List.mem_cons, List.not_mem_nil, or_false] at hp
    rcases hp with rfl
    · exact q
  refine ⟨a.d_law, [(k_least_sum_time, tb_least_sum_time)], spLawT (spLaw K), cs_each H_kg_least_sum_time, cs_each H_kn_least_sum_time, cs_each (PySem.W.codeHd_of_K X H_kh_least_sum_time), fun s v => .of_eq rfl, fun H x ns hl _ hT hS => ⟨fun p hp => ?_, ⟨x, ns, rfl, hS, hl, fun _ => rfl⟩⟩, fun base KX NX hB => ok_law (T base hB)⟩
  have hp : p ∈ ([(tb_least_sum_time, (("least_sum_time" ++ ".<locals>." : Str) ++ "<lambda>"))] : List (Addr × Str)) := hp
  simp only [List.mem_cons, List.not_mem_nil, or_false] at hp
  rcases hp with rfl
  · exact LamX.TabS.nil (hT (k_least_sum_time, tb_least_sum_time) (by simp))
theorem walk {l : PySem.W.OpenLaw} {q : Program} {loose : List Str} {XP : (Str → Option Value) → Heap → Prop} {YP : World → Heap → Prop} {d : DefRec} {K : Params → PySem.W.Frag} (hn : l.most = some 63) (hdf : d.params.defaults = [])
    (hY : ∀ (w : World) (h : Heap), YP w h → (K w.params).In h)
    (F : ∀ (w : World) (mg : Str → Option Value) (fa : Addr) (h : Heap), YP w h → (K w.params).In h → h.Ns mainGlobals mg → mg d.name = some (.ref fa) → LamX.LawAtS l w (K w.params) CX0 13 63 "_law_script" mg fa h) :
    PySem.W.WalkO q loose XP YP l.row.toRowW d [] (fun f vs => PySem.call f vs) :=
  LamX.walk_ofTs (CX := fun _ => CX0) hn (by decide) hdf ⟨rfl, by decide, by decide⟩ hY F fun _ _ _ _ _ z => z
end My
open PySem PySem.W PyProof.Rows
set_option maxRecDepth 100000 in
set_option maxHeartbeats 0 in
theorem PySem.Challenge.cw_tellontree_k83_least_sum_times_and_hands_holds : PySem.Challenge.rw_tellontree_k83_least_sum_times_and_hands.Holds := by
  w_on; o_law; k_head; (case hw => w_witness2)
  k_fill
  refine My.walk (l := PySem.Challenge.rw_tellontree_k83_least_sum_times_and_hands) rfl rfl (fun w h Y => PySem.W.km_in_of Y) ?F
  case F =>
    intro w mg fa h Y KX G hmg
    refine' My.all_mk KX G hmg ?H_g_Machine ?H_a_is_integer ?H_l_is_integer ?H_c_is_integer ?H_k_is_integer ?H_a_is_between ?H_l_is_between ?H_c_is_between ?H_k_is_between ?H_a_check_count ?H_l_check_count ?H_c_check_count ?H_k_check_count ?H_a_check_time ?H_l_check_time ?H_c_check_time ?H_k_check_time ?H_a_least_where ?H_l_least_where ?H_c_least_where ?H_k_least_where ?H_a_Machine_init ?H_i_Machine_init ?H_l_Machine_init ?H_c_Machine_init ?H_k_Machine_init ?H_a_slow_tree ?H_l_slow_tree ?H_c_slow_tree ?H_k_slow_tree ?H_a_greatest_sum ?H_l_greatest_sum ?H_c_greatest_sum ?H_k_greatest_sum ?H_a_most_summed ?H_l_most_summed ?H_c_most_summed ?H_k_most_summed ?H_a_least_sum_time ?H_l_least_sum_time ?H_c_least_sum_time ?H_k_least_sum_time ?H_a_least_summers ?H_l_least_summers ?H_c_least_summers ?H_k_least_summers ?H_a__law_source ?H_l__law_source ?H_c__law_source ?H_k__law_source ?H_a__law_draw ?H_l__law_draw ?H_c__law_draw ?H_k__law_draw ?H_a__law_big ?H_l__law_big ?H_c__law_big ?H_k__law_big ?H_a__law_numbers ?H_l__law_numbers ?H_c__law_numbers ?H_k__law_numbers ?H_a__law_small ?H_l__law_small ?H_c__law_small ?H_k__law_small ?H_a__law_is ?H_l__law_is ?H_c__law_is ?H_k__law_is ?H_a__law_known ?H_l__law_known ?H_c__law_known ?H_k__law_known ?H_a__law_most ?H_l__law_most ?H_c__law_most ?H_k__law_most ?H_a__law_fewest ?H_l__law_fewest ?H_c__law_fewest ?H_k__law_fewest ?H_a__law_time_right ?H_l__law_time_right ?H_c__law_time_right ?H_k__law_time_right ?H_a__law_hands_right ?H_l__law_hands_right ?H_c__law_hands_right ?H_k__law_hands_right ?H_a__law_grows ?H_l__law_grows ?H_c__law_grows ?H_k__law_grows ?H_a_law ?H_l_law ?H_c_law ?H_k_law ?H_pg_Machine ?H_hd_Machine ?H_po_Machine ?H_sa_Machine ?H_mk_Machine ?H_kc_Machine ?H_nF_Machine_o ?H_nF_Machine_l ?H_nF_Machine_g ?H_nF_Machine_letter ?H_nF_Machine_gap ?H_n_bool ?H_n_int ?H_n_isinstance ?H_n_len ?H_n_max ?H_n_min ?H_n_range ?H_n_sum ?H_x_MOST_SHARING ?H_x_GREATEST_PART ?H_x_LATEST_SUM ?H_x_MOST_ASKED ?H_heappush ?H_heappop ?H_kl_least_sum_time ?H_kt_least_sum_time ?H_kh_least_sum_time ?H_kn_least_sum_time ?H_kg_least_sum_time
    (case H_g_Machine => k_is)
    (case H_a_is_integer => k_is)
    (case H_l_is_integer => k_is)
    (case H_c_is_integer => k_is)
    (case H_k_is_integer => k_is)
    (case H_a_is_between => k_is)
    (case H_l_is_between => k_is)
    (case H_c_is_between => k_is)
    (case H_k_is_between => k_is)
    (case H_a_check_count => k_is)
    (case H_l_check_count => k_is)
    (case H_c_check_count => k_is)
    (case H_k_check_count => k_is)
    (case H_a_check_time => k_is)
    (case H_l_check_time => k_is)
    (case H_c_check_time => k_is)
    (case H_k_check_time => k_is)
    (case H_a_least_where => k_is)
    (case H_l_least_where => k_is)
    (case H_c_least_where => k_is)
    (case H_k_least_where => k_is)
    (case H_a_Machine_init => k_is)
    (case H_i_Machine_init => k_is)
    (case H_l_Machine_init => k_is)
    (case H_c_Machine_init => k_is)
    (case H_k_Machine_init => k_is)
    (case H_a_slow_tree => k_is)
    (case H_l_slow_tree => k_is)
    (case H_c_slow_tree => k_is)
    (case H_k_slow_tree => k_is)
    (case H_a_greatest_sum => k_is)
    (case H_l_greatest_sum => k_is)
    (case H_c_greatest_sum => k_is)
    (case H_k_greatest_sum => k_is)
    (case H_a_most_summed => k_is)
    (case H_l_most_summed => k_is)
    (case H_c_most_summed => k_is)
    (case H_k_most_summed => k_is)
    (case H_a_least_sum_time => k_is)
    (case H_l_least_sum_time => k_is)
    (case H_c_least_sum_time => k_is)
    (case H_k_least_sum_time => k_is)
    (case H_a_least_summers => k_is)
    (case H_l_least_summers => k_is)
    (case H_c_least_summers => k_is)
    (case H_k_least_summers => k_is)
    (case H_a__law_source => k_is)
    (case H_l__law_source => k_is)
    (case H_c__law_source => k_is)
    (case H_k__law_source => k_is)
    (case H_a__law_draw => k_is)
    (case H_l__law_draw => k_is)
    (case H_c__law_draw => k_is)
    (case H_k__law_draw => k_is)
    (case H_a__law_big => k_is)
    (case H_l__law_big => k_is)
    (case H_c__law_big => k_is)
    (case H_k__law_big => k_is)
    (case H_a__law_numbers => k_is)
    (case H_l__law_numbers => k_is)
    (case H_c__law_numbers => k_is)
    (case H_k__law_numbers => k_is)
    (case H_a__law_small => k_is)
    (case H_l__law_small => k_is)
    (case H_c__law_small => k_is)
    (case H_k__law_small => k_is)
    (case H_a__law_is => k_is)
    (case H_l__law_is => k_is)
    (case H_c__law_is => k_is)
    (case H_k__law_is => k_is)
    (case H_a__law_known => k_is)
    (case H_l__law_known => k_is)
    (case H_c__law_known => k_is)
    (case H_k__law_known => k_is)
    (case H_a__law_most => k_is)
    (case H_l__law_most => k_is)
    (case H_c__law_most => k_is)
    (case H_k__law_most => k_is)
    (case H_a__law_fewest => k_is)
    (case H_l__law_fewest => k_is)
    (case H_c__law_fewest => k_is)
    (case H_k__law_fewest => k_is)
    (case H_a__law_time_right => k_is)
    (case H_l__law_time_right => k_is)
    (case H_c__law_time_right => k_is)
    (case H_k__law_time_right => k_is)
    (case H_a__law_hands_right => k_is)
    (case H_l__law_hands_right => k_is)
    (case H_c__law_hands_right => k_is)
    (case H_k__law_hands_right => k_is)
    (case H_a__law_grows => k_is)
    (case H_l__law_grows => k_is)
    (case H_c__law_grows => k_is)
    (case H_k__law_grows => k_is)
    (case H_a_law => k_is)
    (case H_l_law => k_is)
    (case H_c_law => k_is)
    (case H_k_law => k_is)
    (case H_pg_Machine => k_is)
    (case H_hd_Machine => k_is)
    (case H_po_Machine => k_is)
    (case H_sa_Machine => k_is)
    (case H_mk_Machine => k_is)
    (case H_kc_Machine => k_is)
    (case H_nF_Machine_o => k_is)
    (case H_nF_Machine_l => k_is)
    (case H_nF_Machine_g => k_is)
    (case H_nF_Machine_letter => k_is)
    (case H_nF_Machine_gap => k_is)
    (case H_n_bool => k_is)
    (case H_n_int => k_is)
    (case H_n_isinstance => k_is)
    (case H_n_len => k_is)
    (case H_n_max => k_is)
    (case H_n_min => k_is)
    (case H_n_range => k_is)
    (case H_n_sum => k_is)
    (case H_x_MOST_SHARING => k_is)
    (case H_x_GREATEST_PART => k_is)
    (case H_x_LATEST_SUM => k_is)
    (case H_x_MOST_ASKED => k_is)
    (case H_heappush => k_is)
    (case H_heappop => k_is)
    (case H_kl_least_sum_time => k_is)
    (case H_kt_least_sum_time => exact rfl)
    (case H_kh_least_sum_time => kernel_rfl)
    (case H_kn_least_sum_time => kernel_rfl)
    (case H_kg_least_sum_time => exact PySem.W.km_tabs_of Y _ (by simp))
