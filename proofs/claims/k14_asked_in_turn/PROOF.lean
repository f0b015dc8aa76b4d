import PyProof.Rows.All
import Wide.All
import OpenK.AllK
import Wide.FinOn
import KE.KStateDown
import Lean
import HandS.ForMost
import HandS.ForExc
import HandS.More
import HandS.Defaults
import HandS.IsInst
import HandS.ExcIs
import HandS.TryMany
import HandS.Evl
import HandS.Steps
import HandS.Style
import HandS.SetFor
import HandS.Strs
import HandS.Zip
import HandS.Conv
import HandS.Deep
import HandS.Head0
import HandS.Head1
import HandS.Head2
import HandS.HeadEnd
import HandS.HeadHook1
import HandS.HeadHook2
import HandS.HeadHook3
import HandS.HeadHook4
import HandS.HeadWalk
import HandS.TupLen
import HandS.TupAny
import HandS.SortKw
import HandS.Walk
import HandS.RevRange
import HandS.FStr
import HandS.NoneIn
import HandS.StrMore
import PyProof.SliceList
import KE.KDictKeyed
import KE.KDictWalk
import KE.KEqDict
import PyProof.ZipIter
import PyProof.CallType
import PyProof.TupleOfSeq
import PyProof.RulesTry
import PySem.Challenge.RW_routevan_k14_asked_in_turn
set_option Elab.async false
set_option linter.all false
set_option maxRecDepth 100000
set_option maxHeartbeats 2000000
local macro_rules | `(tactic| walk_at "side") => `(tactic| first | decide | omega | assumption | exact ⟨by decide, by decide⟩ | exact Or.inr ⟨by decide, by decide⟩ | exact Or.inl ⟨by decide, by decide⟩ | exact ⟨by omega, by omega⟩ | exact Evl.sz_of (Nat.le_of_ble_eq_true rfl))
local macro_rules | `(tactic| walk_at "seq") => `(tactic| first | assumption | exact L2.SqT.of (by assumption) | exact L2.SqL.of (by assumption))
local macro_rules | `(tactic| walk_at "go") => `(tactic| repeat (first
  | refine ⟨_, rfl, ?_⟩
  | refine ⟨_, _, rfl, rfl, ?_⟩
  | refine ⟨_, _, rfl, ?_⟩
  | refine ⟨rfl, ?_⟩
  | refine And.intro (by walk_at "side") ?_
  | refine ⟨_, _, _, _, rfl, rfl, (by walk_at "seq"), rfl, ?_⟩
  | refine ⟨_, _, rfl, Or.inl (by walk_at "seq"), ?_⟩
  | refine ⟨_, _, rfl, Or.inr (by walk_at "seq"), ?_⟩
  | refine ⟨_, _, rfl, (by walk_at "seq"), rfl, ?_⟩
  | refine ⟨_, _, _, _, rfl, rfl, (by walk_at "seq"), (by assumption), ?_⟩
  | refine ⟨_, _, rfl, (by walk_at "seq"), ?_⟩
  | refine ⟨_, _, _, rfl, (fun u e => e), (by assumption), ?_⟩))
namespace RV
open PySem PySem.Spec PyProof.Rows L2
open Evl (Ex)
open TL (tl ext_tl len_tl mk_tl tl_append tl_ofString tl_num numL numL_digits numL_ne numL_len numL_inj numL_lt numL_step int_num spl split_spl kind_ok map_tl_inj joinL spl_join tl_join join_eq spl_nil spl_last1 spl_part1)

/-! ### the text by places -/
def top (i : Nat) : Stmt := PySem.Challenge.pw_routevan_k14_asked_in_turn.main.body.getD i (.Pass ⟨0, 0, 0, 0⟩)
abbrev s_is_road : Stmt := top 14
abbrev N_is_road : List Str := ["road", "word", "length"]
theorem sc_is_road : FnScope N_is_road ["road"] (defScope s_is_road) := ⟨rfl, rfl, rfl, by decide +kernel, rfl, by decide +kernel, by decide +kernel⟩
abbrev s_has_place : Stmt := top 15
abbrev N_has_place : List Str := ["road", "place", "word", "length"]
theorem sc_has_place : FnScope N_has_place ["road", "place"] (defScope s_has_place) := ⟨rfl, rfl, rfl, by decide +kernel, rfl, by decide +kernel, by decide +kernel⟩
abbrev s_apart : Stmt := top 16
abbrev N_apart : List Str := ["road", "one", "other"]
theorem sc_apart : FnScope N_apart ["road", "one", "other"] (defScope s_apart) := ⟨rfl, rfl, rfl, by decide +kernel, rfl, by decide +kernel, by decide +kernel⟩
abbrev s_way : Stmt := top 17
abbrev N_way : List Str := ["road", "one", "other", "word", "length", "up"]
theorem sc_way : FnScope N_way ["road", "one", "other"] (defScope s_way) := ⟨rfl, rfl, rfl, by decide +kernel, rfl, by decide +kernel, by decide +kernel⟩
abbrev s_is_time : Stmt := top 21
abbrev N_is_time : List Str := ["number"]
theorem sc_is_time : FnScope N_is_time ["number"] (defScope s_is_time) := ⟨rfl, rfl, rfl, by decide +kernel, rfl, by decide +kernel, by decide +kernel⟩
abbrev s_check_stop : Stmt := top 22
abbrev N_check_stop : List Str := ["road", "stop", "place", "opens", "closes", "stay"]
theorem sc_check_stop : FnScope N_check_stop ["road", "stop"] (defScope s_check_stop) := ⟨rfl, rfl, rfl, by decide +kernel, rfl, by decide +kernel, by decide +kernel⟩
abbrev s_check_day : Stmt := top 23
abbrev N_check_day : List Str := ["road", "home", "start", "stops", "stop"]
theorem sc_check_day : FnScope N_check_day ["road", "home", "start", "stops"] (defScope s_check_day) := ⟨rfl, rfl, rfl, by decide +kernel, rfl, by decide +kernel, by decide +kernel⟩
abbrev s_Day___init : Stmt := inClass (top 24) 0
abbrev N_Day___init : List Str := ["self", "road", "home", "start", "stops"]
theorem sc_Day___init : FnScope N_Day___init ["self", "road", "home", "start", "stops"] (defScope s_Day___init) := ⟨rfl, rfl, rfl, by decide +kernel, rfl, by decide +kernel, by decide +kernel⟩
abbrev s_check_order : Stmt := top 25
abbrev N_check_order : List Str := ["day", "order", "number"]
theorem sc_check_order : FnScope N_check_order ["day", "order"] (defScope s_check_order) := ⟨rfl, rfl, rfl, by decide +kernel, rfl, by decide +kernel, by decide +kernel⟩
abbrev s_visit : Stmt := top 26
abbrev N_visit : List Str := ["day", "place", "leaves", "number", "there", "opens", "closes", "stay", "comes", "begins"]
theorem sc_visit : FnScope N_visit ["day", "place", "leaves", "number"] (defScope s_visit) := ⟨rfl, rfl, rfl, by decide +kernel, rfl, by decide +kernel, by decide +kernel⟩
abbrev s_timetable : Stmt := top 27
abbrev N_timetable : List Str := ["day", "order", "rows", "place", "leaves", "number", "row"]
theorem sc_timetable : FnScope N_timetable ["day", "order"] (defScope s_timetable) := ⟨rfl, rfl, rfl, by decide +kernel, rfl, by decide +kernel, by decide +kernel⟩
abbrev s_ends : Stmt := top 28
abbrev N_ends : List Str := ["day", "order", "rows", "place", "leaves"]
theorem sc_ends : FnScope N_ends ["day", "order"] (defScope s_ends) := ⟨rfl, rfl, rfl, by decide +kernel, rfl, by decide +kernel, by decide +kernel⟩
abbrev s_not_begun : Stmt := top 30
abbrev N_not_begun : List Str := ["day", "begun", "number"]
theorem sc_not_begun : FnScope N_not_begun ["day", "begun"] (defScope s_not_begun) := ⟨rfl, rfl, rfl, by decide +kernel, rfl, by decide +kernel, by decide +kernel⟩
abbrev s_begun_way : Stmt := top 31
abbrev N_begun_way : List Str := ["day", "begun", "rows"]
theorem sc_begun_way : FnScope N_begun_way ["day", "begun"] (defScope s_begun_way) := ⟨rfl, rfl, rfl, by decide +kernel, rfl, by decide +kernel, by decide +kernel⟩
abbrev s_ways_on : Stmt := top 32
abbrev N_ways_on : List Str := ["day", "rows", "done", "number"]
theorem sc_ways_on : FnScope N_ways_on ["day", "rows", "done"] (defScope s_ways_on) := ⟨rfl, rfl, rfl, by decide +kernel, rfl, by decide +kernel, by decide +kernel⟩
abbrev s_earliest : Stmt := top 33
abbrev N_earliest : List Str := ["day", "ways", "last", "found", "before", "place", "leaves", "row"]
theorem sc_earliest : FnScope N_earliest ["day", "ways", "last"] (defScope s_earliest) := ⟨rfl, rfl, rfl, by decide +kernel, rfl, by decide +kernel, by decide +kernel⟩
abbrev s_table : Stmt := top 34
abbrev N_table : List Str := ["day", "begun", "start", "rows", "place", "leaves", "rest", "many", "done", "last", "others", "number", "ways", "row"]
theorem sc_table : FnScope N_table ["day", "begun"] (defScope s_table) := ⟨rfl, rfl, rfl, by decide +kernel, rfl, by decide +kernel, by decide +kernel⟩
abbrev s_tour_end : Stmt := top 35
abbrev N_tour_end : List Str := ["day", "order"]
theorem sc_tour_end : FnScope N_tour_end ["day", "order"] (defScope s_tour_end) := ⟨rfl, rfl, rfl, by decide +kernel, rfl, by decide +kernel, by decide +kernel⟩
abbrev s_least : Stmt := top 36
abbrev N_least : List Str := ["day", "begun", "rest", "rows", "homes", "_", "place", "leaves"]
theorem sc_least : FnScope N_least ["day", "begun"] (defScope s_least) := ⟨rfl, rfl, rfl, by decide +kernel, rfl, by decide +kernel, by decide +kernel⟩
abbrev s_written : Stmt := top 42
abbrev N_written : List Str := ["day", "word", "length", "rows", "place", "opens", "closes", "stay"]
theorem sc_written : FnScope N_written ["day"] (defScope s_written) := ⟨rfl, rfl, rfl, by decide +kernel, rfl, by decide +kernel, by decide +kernel⟩
abbrev s_number_of : Stmt := top 43
abbrev N_number_of : List Str := ["word", "sign"]
theorem sc_number_of : FnScope N_number_of ["word"] (defScope s_number_of) := ⟨rfl, rfl, rfl, by decide +kernel, rfl, by decide +kernel, by decide +kernel⟩
abbrev s_numbers_of : Stmt := top 44
abbrev N_numbers_of : List Str := ["row", "names", "words", "word"]
theorem sc_numbers_of : FnScope N_numbers_of ["row", "names"] (defScope s_numbers_of) := ⟨rfl, rfl, rfl, by decide +kernel, rfl, by decide +kernel, by decide +kernel⟩
abbrev s_road_of : Stmt := top 45
abbrev N_road_of : List Str := ["row", "word"]
theorem sc_road_of : FnScope N_road_of ["row"] (defScope s_road_of) := ⟨rfl, rfl, rfl, by decide +kernel, rfl, by decide +kernel, by decide +kernel⟩
abbrev s_read : Stmt := top 46
abbrev N_read : List Str := ["text", "rows", "road", "home", "start", "stops", "row"]
theorem sc_read : FnScope N_read ["text"] (defScope s_read) := ⟨rfl, rfl, rfl, by decide +kernel, rfl, by decide +kernel, by decide +kernel⟩
abbrev s_best : Stmt := top 48
abbrev N_best : List Str := ["day", "end", "order", "_"]
theorem sc_best : FnScope N_best ["day"] (defScope s_best) := ⟨rfl, rfl, rfl, by decide +kernel, rfl, by decide +kernel, by decide +kernel⟩
abbrev s_next_number : Stmt := top 49
abbrev N_next_number : List Str := ["day", "order", "end", "rest", "number"]
theorem sc_next_number : FnScope N_next_number ["day", "order", "end"] (defScope s_next_number) := ⟨rfl, rfl, rfl, by decide +kernel, rfl, by decide +kernel, by decide +kernel⟩
abbrev s_has_tour : Stmt := top 50
abbrev N_has_tour : List Str := ["day", "kept", "stops", "number"]
theorem sc_has_tour : FnScope N_has_tour ["day", "kept"] (defScope s_has_tour) := ⟨rfl, rfl, rfl, by decide +kernel, rfl, by decide +kernel, by decide +kernel⟩
abbrev s_clash : Stmt := top 51
abbrev N_clash : List Str := ["day", "kept", "number", "others", "other"]
theorem sc_clash : FnScope N_clash ["day"] (defScope s_clash) := ⟨rfl, rfl, rfl, by decide +kernel, rfl, by decide +kernel, by decide +kernel⟩
abbrev s_told : Stmt := top 52
abbrev N_told : List Str := ["day", "order"]
theorem sc_told : FnScope N_told ["day"] (defScope s_told) := ⟨rfl, rfl, rfl, by decide +kernel, rfl, by decide +kernel, by decide +kernel⟩
abbrev s_law_cell_at : Stmt := top 54
abbrev N_law_cell_at : List Str := ["_law_script", "_law_k"]
theorem sc_law_cell_at : FnScope N_law_cell_at ["_law_script", "_law_k"] (defScope s_law_cell_at) := ⟨rfl, rfl, rfl, by decide +kernel, rfl, by decide +kernel, by decide +kernel⟩
abbrev s_law_wide : Stmt := top 55
abbrev N_law_wide : List Str := ["_law_cell", "_law_bound"]
theorem sc_law_wide : FnScope N_law_wide ["_law_cell", "_law_bound"] (defScope s_law_wide) := ⟨rfl, rfl, rfl, by decide +kernel, rfl, by decide +kernel, by decide +kernel⟩
abbrev s_law_road_by : Stmt := top 56
abbrev N_law_road_by : List Str := ["_law_cell", "_law_length"]
theorem sc_law_road_by : FnScope N_law_road_by ["_law_cell"] (defScope s_law_road_by) := ⟨rfl, rfl, rfl, by decide +kernel, rfl, by decide +kernel, by decide +kernel⟩
abbrev s_law_places : Stmt := top 57
abbrev N_law_places : List Str := ["_law_road"]
theorem sc_law_places : FnScope N_law_places ["_law_road"] (defScope s_law_places) := ⟨rfl, rfl, rfl, by decide +kernel, rfl, by decide +kernel, by decide +kernel⟩
abbrev s_law_place_by : Stmt := top 58
abbrev N_law_place_by : List Str := ["_law_road", "_law_cell", "_law_many_here"]
theorem sc_law_place_by : FnScope N_law_place_by ["_law_road", "_law_cell"] (defScope s_law_place_by) := ⟨rfl, rfl, rfl, by decide +kernel, rfl, by decide +kernel, by decide +kernel⟩
abbrev s_law_start_by : Stmt := top 59
abbrev N_law_start_by : List Str := ["_law_road", "_law_cell"]
theorem sc_law_start_by : FnScope N_law_start_by ["_law_road", "_law_cell"] (defScope s_law_start_by) := ⟨rfl, rfl, rfl, by decide +kernel, rfl, by decide +kernel, by decide +kernel⟩
abbrev s_law_stop_by : Stmt := top 60
abbrev N_law_stop_by : List Str := ["_law_road", "_law_start", "_law_script", "_law_k", "_law_place", "_law_cell", "_law_opens", "_law_closes", "_law_stay"]
theorem sc_law_stop_by : FnScope N_law_stop_by ["_law_road", "_law_start", "_law_script", "_law_k"] (defScope s_law_stop_by) := ⟨rfl, rfl, rfl, by decide +kernel, rfl, by decide +kernel, by decide +kernel⟩
abbrev s_law_stops_by : Stmt := top 61
abbrev N_law_stops_by : List Str := ["_law_road", "_law_start", "_law_script", "_law_many_here", "_law_k"]
theorem sc_law_stops_by : FnScope N_law_stops_by ["_law_road", "_law_start", "_law_script", "_law_many_here"] (defScope s_law_stops_by) := ⟨rfl, rfl, rfl, by decide +kernel, rfl, by decide +kernel, by decide +kernel⟩
abbrev s_law_many : Stmt := top 62
abbrev N_law_many : List Str := ["_law_cell"]
theorem sc_law_many : FnScope N_law_many ["_law_cell"] (defScope s_law_many) := ⟨rfl, rfl, rfl, by decide +kernel, rfl, by decide +kernel, by decide +kernel⟩
abbrev s_law_order : Stmt := top 63
abbrev N_law_order : List Str := ["_law_script", "_law_many_here", "_law_k", "_law_order_here", "_law_left", "_law_j", "_law_at"]
theorem sc_law_order : FnScope N_law_order ["_law_script", "_law_many_here", "_law_k"] (defScope s_law_order) := ⟨rfl, rfl, rfl, by decide +kernel, rfl, by decide +kernel, by decide +kernel⟩
abbrev s_law_driven : Stmt := top 64
abbrev N_law_driven : List Str := ["_law_day", "_law_order_here", "_law_kind"]
theorem sc_law_driven : FnScope N_law_driven ["_law_day", "_law_order_here", "_law_kind"] (defScope s_law_driven) := ⟨rfl, rfl, rfl, by decide +kernel, rfl, by decide +kernel, by decide +kernel⟩
abbrev s_law_answer : Stmt := top 65
abbrev N_law_answer : List Str := ["_law_day", "_law_order_here", "_law_kind"]
theorem sc_law_answer : FnScope N_law_answer ["_law_day", "_law_order_here", "_law_kind"] (defScope s_law_answer) := ⟨rfl, rfl, rfl, by decide +kernel, rfl, by decide +kernel, by decide +kernel⟩
abbrev s_law_changed : Stmt := top 66
abbrev N_law_changed : List Str := ["_law_found"]
theorem sc_law_changed : FnScope N_law_changed ["_law_found"] (defScope s_law_changed) := ⟨rfl, rfl, rfl, by decide +kernel, rfl, by decide +kernel, by decide +kernel⟩
abbrev s_law_far : Stmt := top 67
abbrev N_law_far : List Str := ["_law_road", "_law_one", "_law_other", "_law_straight"]
theorem sc_law_far : FnScope N_law_far ["_law_road", "_law_one", "_law_other"] (defScope s_law_far) := ⟨rfl, rfl, rfl, by decide +kernel, rfl, by decide +kernel, by decide +kernel⟩
abbrev s_law_due_times : Stmt := top 68
abbrev N_law_due_times : List Str := ["_law_road", "_law_home", "_law_start", "_law_stops", "_law_order_here", "_law_one", "_law_here", "_law_now", "_law_found", "_law_place", "_law_opens", "_law_closes", "_law_stay", "_law_comes"]
theorem sc_law_due_times : FnScope N_law_due_times ["_law_road", "_law_home", "_law_start", "_law_stops", "_law_order_here"] (defScope s_law_due_times) := ⟨rfl, rfl, rfl, by decide +kernel, rfl, by decide +kernel, by decide +kernel⟩
abbrev s_law_times_right : Stmt := top 69
abbrev N_law_times_right : List Str := ["_law_road", "_law_home", "_law_start", "_law_pairs", "_law_day", "_law_some", "_law_many_here", "_law_orders", "_law_order_here"]
theorem sc_law_times_right : FnScope N_law_times_right ["_law_road", "_law_home", "_law_start", "_law_pairs"] (defScope s_law_times_right) := ⟨rfl, rfl, rfl, by decide +kernel, rfl, by decide +kernel, by decide +kernel⟩
abbrev s_law : Stmt := top 70
abbrev N_law : List Str := ["_law_script", "_law_road", "_law_home", "_law_start", "_law_stops", "_law_others", "_law_k", "_law_handed", "_law_days", "_law_held", "_law_one_list", "_law_cell", "_law_order_here", "_law_anew", "_law_due", "_law_found", "_law_one", "_law_other", "_law_pairs"]
theorem sc_law : FnScope N_law ["_law_script"] (defScope s_law) := ⟨rfl, rfl, rfl, by decide +kernel, rfl, by decide +kernel, by decide +kernel⟩
/-! ### words of our own -/
section
variable {X : Cx}
theorem pe_globE {x : Str} {v : V} {pos : Pos} (hg : Gl X x) (h : ∃ u, X.mg x = some u ∧ RelV v u) (hd : (x == ("__debug__" : Str)) = false := by decide) : PE X (.Name x pos) (tC v) := by
  obtain ⟨u, hm, r⟩ := h
  exact pe_glob hg hm r hd
end
theorem pe_eq {X : Cx} {e : Expr} {t t' : TE} (h : PE X e t) (q : t = t') : PE X e t' := q ▸ h
theorem pts_eq {X : Cx} {e : List Expr} {t t' : TT} (h : PTs X e t) (q : t = t') : PTs X e t' := q ▸ h
theorem pss_eq {X : Cx} {st : List Stmt} {t t' : TS} (h : PSs X st t) (e : t = t') : PSs X st t' := e ▸ h
theorem sizeOk {n : Nat} (h : n ≤ 100000) : n ≤ sizeLine := Evl.sz_of h
theorem szl {α : Type} {xs : List α} (h : Nat.ble xs.length 100000 = true := by rfl) : xs.length ≤ sizeLine := sizeOk (Nat.le_of_ble_eq_true h)
/-- a test's two ways -/
theorem iteB {b : Bool} {A B : Prop} (h1 : b = true → A) (h2 : b = false → B) : if b = true then A else B := by
  cases b with
  | true => exact h1 rfl
  | false => exact h2 rfl
theorem iteFb {b : Bool} {A B : Prop} (e : b = false) (h : B) : if b = true then A else B := by
  rw [e]
  exact iteF h
theorem iteTb {b : Bool} {A B : Prop} (e : b = true) (h : A) : if b = true then A else B := by
  rw [e]
  exact iteT h
theorem neSelf {v w : V} (e : v = w) : (!decide (v = w)) = false := by rw [decide_eq_true e]; rfl
theorem dec_eq {p r : Prop} {ip : Decidable p} {ir : Decidable r} (h : p ↔ r) : decide p = decide r := by
  by_cases c : p
  · rw [decide_eq_true c, decide_eq_true (h.mp c)]
  · rw [decide_eq_false c, decide_eq_false (fun z => c (h.mpr z))]
theorem dself {v : V} : decide (v = v) = true := decide_eq_true rfl
theorem odt {p : Prop} {i : Decidable p} (h : @decide p i = true) : p := of_decide_eq_true h
theorem odf {p : Prop} {i : Decidable p} (h : @decide p i = false) : ¬ p := of_decide_eq_false h
theorem decT {p : Prop} {i : Decidable p} (h : p) : @decide p i = true := decide_eq_true h
theorem decF {p : Prop} {i : Decidable p} (h : ¬ p) : @decide p i = false := decide_eq_false h
theorem nndec {p : Prop} {i : Decidable p} (h : (!@decide p i) = true) : ¬ p := fun z => by rw [decT z] at h; cases h
theorem ndec {p : Prop} {i : Decidable p} (h : (!@decide p i) = false) : p := Decidable.byContradiction fun z => by rw [decF z] at h; cases h
/-- a road as a value -/
def wordOf (ring : Bool) : Str := if ring then "ring" else "line"
def roadV (ring : Bool) (len : Int) : List V := [.str (wordOf ring), .int len]
theorem word_line (ring : Bool) : (V.str (wordOf ring) = V.str "line") ↔ ring = false := by cases ring <;> decide +kernel
theorem word_ring (ring : Bool) : (V.str (wordOf ring) = V.str "ring") ↔ ring = true := by cases ring <;> decide +kernel
/-- how many places a road has -/
def placesOf (ring : Bool) (len : Int) : Int := if ring then len else len + 1
/-- a new object leaves all -/
theorem ex_at {H H' : Hp} {a : Addr} {o : HO} (e : Ex H H') (h : H a = some o) : H' a = some o := e a o h
theorem atI_lt {α : Type} {xs : List α} {i : Int} (h0 : 0 ≤ i) (h1 : i < xs.length) : ∃ v, atI xs i = some v ∧ xs[i.toNat]? = some v := by
  have hl : i.toNat < xs.length := by omega
  refine ⟨xs[i.toNat], ?_, List.getElem?_eq_getElem hl⟩
  have q := atI_nat (xs := xs) (j := i.toNat) (v := xs[i.toNat]) (List.getElem?_eq_getElem hl)
  have e : ((i.toNat : Nat) : Int) = i := by omega
  rw [e] at q
  exact q
/-- what a callee raises, wished for at slots of the known number -/
theorem passes_len {X : Cx} {W : WX} {F : XK} {n : Nat} (tk : Takes X W) (hn : X.N.length = n) (hw : ∀ (c : Value) (o : Option Addr) (τ : L2.St) (G : Hp), τ.length = n → F c o G → W c o τ G) : Passes (L2.CX X.prog X.w) X F := by
  intro pins τ G s e s' I c
  refine tk e s' (XE.of_call I (fun c o G' h => ?_) c)
  exact hw c o τ G' (I.len.trans hn) h
/-! #### isinstance of a caught error, whatever its class -/
def rIsX (K : PySem.W.Frag) (a : Addr) (cls : Value) (d : Option Addr) : List V → Hp → VK → Prop := fun xs H Q => ∃ D, cls = .ref D ∧ d = none ∧ ExcC K D ∧ rIsE K D a xs H Q
theorem call_isX {X : Cx} {a : Addr} {cls : Value} {d : Option Addr} {oe : Obj} {pn : List (Addr × Obj)} (hz : Zc cls d oe) (hf : ∃ vs, oe.data = .fields vs) : CallR (X.suite a ((a, oe) :: pn)) (.builtin "isinstance") (rIsX X.K a cls d) := by
  intro pins s σ H xs us Q I r h
  obtain ⟨D, rfl, rfl, C, h⟩ := h
  exact call_isE C hz hf pins s σ H xs us Q I r h
def excCB (K : PySem.W.Frag) (D : Addr) : Bool := decide (PySem.W.findIn K (.ref D) "__getattribute__" = some (some (.builtin "BaseException.__getattribute__"))) && (decide (PySem.W.findIn K (.ref D) "__getattr__" = some none) && (decide (PySem.W.subIn K (.ref D) (.type "BaseException") = some true) && (PySem.W.hasDictIn K D && (decide (PySem.W.findIn K (.ref D) "__class__" = some (some (.builtin "object.__class__"))) && (decide (PySem.W.specialIn K (.builtin "object.__class__") "__get__" = some (some (.builtin "getset_descriptor.__get__"))) && (decide (PySem.W.takesIn K (.builtin "object.__class__") = some true) && decide (PySem.W.mroIn K D (.type "object") = some true)))))))
theorem excCB_ok {K : PySem.W.Frag} {D : Addr} (h : excCB K D = true) : ExcC K D := by
  obtain ⟨h1, h⟩ := He.ba h
  obtain ⟨h2, h⟩ := He.ba h
  obtain ⟨h3, h⟩ := He.ba h
  obtain ⟨h4, h⟩ := He.ba h
  obtain ⟨h5, h⟩ := He.ba h
  obtain ⟨h6, h⟩ := He.ba h
  obtain ⟨h7, h8⟩ := He.ba h
  exact ⟨of_decide_eq_true h1, of_decide_eq_true h2, of_decide_eq_true h3, h4, of_decide_eq_true h5, of_decide_eq_true h6, of_decide_eq_true h7, of_decide_eq_true h8⟩
/-- what an own class must have, so that isinstance asks its instances rightly -/
structure InsC (K : PySem.W.Frag) (C : Addr) : Prop where
  ha : PySem.W.findIn K (.ref C) "__class__" = some (some (.builtin "object.__class__"))
  hn : PySem.W.specialIn K (.builtin "object.__class__") "__get__" = some (some (.builtin "getset_descriptor.__get__"))
  ht : PySem.W.takesIn K (.builtin "object.__class__") = some true
  hm : PySem.W.mroIn K C (.type "object") = some true
def insCB (K : PySem.W.Frag) (D : Addr) : Bool := decide (PySem.W.findIn K (.ref D) "__class__" = some (some (.builtin "object.__class__"))) && (decide (PySem.W.specialIn K (.builtin "object.__class__") "__get__" = some (some (.builtin "getset_descriptor.__get__"))) && (decide (PySem.W.takesIn K (.builtin "object.__class__") = some true) && decide (PySem.W.mroIn K D (.type "object") = some true)))
theorem insCB_ok {K : PySem.W.Frag} {D : Addr} (h : insCB K D = true) : InsC K D := by
  obtain ⟨h1, h⟩ := He.ba h
  obtain ⟨h2, h⟩ := He.ba h
  obtain ⟨h3, h4⟩ := He.ba h
  exact ⟨of_decide_eq_true h1, of_decide_eq_true h2, of_decide_eq_true h3, of_decide_eq_true h4⟩
/-! ### roads reckoned -/
def wayOf (ring : Bool) (len one other : Int) : Int := if ring = true then (if 2 * ((other - one) % len) ≤ len then (other - one) % len else (other - one) % len - len) else other - one
def apartOf (ring : Bool) (len one other : Int) : Int := if wayOf ring len one other < 0 then - wayOf ring len one other else wayOf ring len one other
theorem apart_self {ring : Bool} {len a : Int} (h : 0 < len) : apartOf ring len a a = 0 := by
  have h2 : 0 ≤ len := by omega
  unfold apartOf wayOf
  cases ring <;> simp [h2]
/-! ### days: stops as data, what is refused -/
abbrev Stp := Int × Int × Int × Int
def stopV (s : Stp) : List V := [.int s.1, .int s.2.1, .int s.2.2.1, .int s.2.2.2]
def StopsR (K : PySem.W.Frag) (H : Hp) (ps : List Addr) (sts : List Stp) : Prop := Paired (fun p s => SqT K H p (stopV s)) ps sts
theorem StopsR.ex {K : PySem.W.Frag} {H H' : Hp} {ps : List Addr} {sts : List Stp} (e : Ex H H') (h : StopsR K H ps sts) : StopsR K H' ps sts := Paired.mapP h fun _ _ q => Evl.ex_t e q
theorem StopsR.len {K : PySem.W.Frag} {H : Hp} {ps : List Addr} {sts : List Stp} (h : StopsR K H ps sts) : ps.length = sts.length := Paired.length h
theorem StopsR.get {K : PySem.W.Frag} {H : Hp} : ∀ {ps : List Addr} {sts : List Stp} {i : Nat} {p : Addr}, StopsR K H ps sts → ps[i]? = some p → ∃ s, sts[i]? = some s ∧ SqT K H p (stopV s)
  | [], _, i, p, _, e => by simp at e
  | _ :: _, [], _, _, h, _ => by cases h
  | a :: as, s :: ss, 0, p, h, e => by
    cases h with
    | cons r t =>
      simp at e
      subst e
      exact ⟨s, rfl, r⟩
  | a :: as, s :: ss, i + 1, p, h, e => by
    cases h with
    | cons r t =>
      obtain ⟨z, h1, h2⟩ := StopsR.get (i := i) (p := p) t (by simpa using e)
      exact ⟨z, by simpa using h1, h2⟩
theorem map_ref_get {ps : List Addr} {i : Nat} {x : V} (h : (ps.map V.ref)[i]? = some x) : ∃ p, ps[i]? = some p ∧ x = .ref p := by
  rw [List.getElem?_map] at h
  cases e : ps[i]? with
  | none => rw [e] at h; cases h
  | some p => rw [e] at h; exact ⟨p, rfl, (Option.some.inj h).symm⟩
theorem map_int_get {ps : List Int} {i : Nat} {x : V} (h : (ps.map V.int)[i]? = some x) : ∃ p, ps[i]? = some p ∧ x = .int p := by
  rw [List.getElem?_map] at h
  cases e : ps[i]? with
  | none => rw [e] at h; cases h
  | some p => rw [e] at h; exact ⟨p, rfl, (Option.some.inj h).symm⟩
theorem SqL.at_ins {K : PySem.W.Frag} {H : Hp} {a p C dx : Addr} {fs : List (Str × V)} {o : HO} {xs : List V} (hp : H p = some (.ins C dx fs)) (h : SqL K H a xs) : SqL K (upd H p o) a xs := by
  rcases h with (h | ⟨ob, h⟩) | h
  · exact .inl (.inl (by rw [upd_ne (ne_of h hp (by intro z; cases z))]; exact h))
  · exact .inl (.inr ⟨ob, by rw [upd_ne (ne_of h hp (by intro z; cases z))]; exact h⟩)
  · exact .inr h
theorem SqT.at_ins {K : PySem.W.Frag} {H : Hp} {a p C dx : Addr} {fs : List (Str × V)} {o : HO} {xs : List V} (hp : H p = some (.ins C dx fs)) (h : SqT K H a xs) : SqT K (upd H p o) a xs := by
  rcases h with (h | ⟨ob, h⟩) | h
  · exact .inl (.inl (by rw [upd_ne (ne_of h hp (by intro z; cases z))]; exact h))
  · exact .inl (.inr ⟨ob, by rw [upd_ne (ne_of h hp (by intro z; cases z))]; exact h⟩)
  · exact .inr h
theorem SqT.at_lst {K : PySem.W.Frag} {H : Hp} {a p : Addr} {ys : List V} {o : HO} {xs : List V} (hp : H p = some (.lst ys)) (h : SqT K H a xs) : SqT K (upd H p o) a xs := by
  rcases h with (h | ⟨ob, h⟩) | h
  · exact .inl (.inl (by rw [upd_ne (ne_of h hp (by intro z; cases z))]; exact h))
  · exact .inl (.inr ⟨ob, by rw [upd_ne (ne_of h hp (by intro z; cases z))]; exact h⟩)
  · exact .inr h
theorem StopsR.at_lst {K : PySem.W.Frag} {H : Hp} {p : Addr} {ys : List V} {o : HO} {ps : List Addr} {sts : List Stp} (hp : H p = some (.lst ys)) (h : StopsR K H ps sts) : StopsR K (upd H p o) ps sts := Paired.mapP h fun _ _ q => SqT.at_lst hp q
theorem StopsR.snoc {K : PySem.W.Frag} {H : Hp} {p : Addr} {s : Stp} (hs : SqT K H p (stopV s)) : ∀ {ps : List Addr} {sts : List Stp}, StopsR K H ps sts → StopsR K H (ps ++ [p]) (sts ++ [s])
  | [], [], _ => .cons hs .nil
  | [], _ :: _, h => by cases h
  | _ :: _, [], h => by cases h
  | _ :: _, _ :: _, h => by
    cases h with
    | cons r t => exact .cons r (StopsR.snoc hs t)
inductive Flt where
  | road | off | time | many
  deriving DecidableEq
def fltC (K : PySem.W.Frag) : Flt → Addr
  | .road => He.ga K "BadRoad"
  | .off => He.ga K "OffRoad"
  | .time => He.ga K "BadTime"
  | .many => He.ga K "TooMany"
def fltW : Flt → Str
  | .road => "road"
  | .off => "off"
  | .time => "time"
  | .many => "many"
def isTime (n : Int) : Prop := 0 ≤ n ∧ n ≤ 1000000000000
instance (n : Int) : Decidable (isTime n) := inferInstanceAs (Decidable (_ ∧ _))
def onRoad (ring : Bool) (len p : Int) : Prop := 0 ≤ p ∧ p < placesOf ring len
instance (ring : Bool) (len p : Int) : Decidable (onRoad ring len p) := inferInstanceAs (Decidable (_ ∧ _))
def stopFlt (ring : Bool) (len : Int) (s : Stp) : Option Flt := if ¬ onRoad ring len s.1 then some .off else if ¬ (isTime s.2.1 ∧ isTime s.2.2.1 ∧ isTime s.2.2.2) then some .time else if s.2.2.1 < s.2.1 then some .time else none
def stopsFlt (ring : Bool) (len : Int) : List Stp → Option Flt
  | [] => none
  | s :: r => match stopFlt ring len s with
    | some f => some f
    | none => stopsFlt ring len r
def isRoad (w : Str) (len : Int) : Prop := (w = "line" ∨ w = "ring") ∧ 1 ≤ len ∧ len ≤ 1000000000
instance (w : Str) (len : Int) : Decidable (isRoad w len) := inferInstanceAs (Decidable (_ ∧ _))
def dayFlt (w : Str) (len home start : Int) (sts : List Stp) : Option Flt := if ¬ isRoad w len then some .road else if ¬ onRoad (decide (w = "ring")) len home then some .off else if ¬ isTime start then some .time else if 7 < sts.length then some .many else stopsFlt (decide (w = "ring")) len sts
theorem in_roads (w : Str) : inV (.str w) [.str "line", .str "ring"] = decide (w = "line" ∨ w = "ring") := by
  by_cases h1 : w = "line"
  · subst h1
    decide +kernel
  · by_cases h2 : w = "ring"
    · subst h2
      decide +kernel
    · rw [decide_eq_false (by rintro (h | h); exact h1 h; exact h2 h)]
      have e1 : ("line" == w) = false := beq_eq_false_iff_ne.mpr (Ne.symm h1)
      have e2 : ("ring" == w) = false := beq_eq_false_iff_ne.mpr (Ne.symm h2)
      show ((eqV (.str "line") (.str w)) || ((eqV (.str "ring") (.str w)) || false)) = false
      show ((("line" : Str) == w) || ((("ring" : Str) == w) || false)) = false
      rw [e1, e2]; rfl
theorem isRoad_word {w : Str} {len : Int} (h : isRoad w len) : w = wordOf (decide (w = "ring")) ∧ 1 ≤ len := by
  obtain ⟨h1 | h1, h2, _⟩ := h
  · subst h1
    exact ⟨by decide +kernel, h2⟩
  · subst h1
    exact ⟨by decide +kernel, h2⟩
def dayFs (r l : Addr) (home start : Int) : List (Str × V) := [("road", .ref r), ("home", .int home), ("start", .int start), ("stops", .ref l)]
/-- a day as it stands: r its road, l its list of stops -/
def DayAt (K : PySem.W.Frag) (H : Hp) (d r l : Addr) (w : Str) (len home start : Int) (ps : List Addr) (sts : List Stp) : Prop :=
  (∃ dx, H d = some (.ins (He.ga K "Day") dx (dayFs r l home start))) ∧ SqT K H r [.str w, .int len] ∧ H l = some (.lst (ps.map V.ref)) ∧ StopsR K H ps sts
theorem DayAt.ex {K : PySem.W.Frag} {H H' : Hp} {d r l : Addr} {w : Str} {len home start : Int} {ps : List Addr} {sts : List Stp} (e : Ex H H') (h : DayAt K H d r l w len home start ps sts) : DayAt K H' d r l w len home start ps sts := by
  obtain ⟨⟨dx, h1⟩, h2, h3, h4⟩ := h
  exact ⟨⟨dx, e _ _ h1⟩, Evl.ex_t e h2, e _ _ h3, h4.ex e⟩
/-- another list may change -/
theorem DayAt.at_lst {K : PySem.W.Frag} {H : Hp} {d r l p : Addr} {w : Str} {len home start : Int} {ps : List Addr} {sts : List Stp} {ys : List V} {o : HO} (hp : H p = some (.lst ys)) (ne : l ≠ p) (h : DayAt K H d r l w len home start ps sts) : DayAt K (upd H p o) d r l w len home start ps sts := by
  obtain ⟨⟨dx, h1⟩, h2, h3, h4⟩ := h
  exact ⟨⟨dx, by rw [upd_ne (ne_of h1 hp (by intro z; cases z))]; exact h1⟩, SqT.at_lst hp h2, by rw [upd_ne ne]; exact h3, h4.at_lst hp⟩
def goodStop (ring : Bool) (len : Int) (s : Stp) : Prop := onRoad ring len s.1 ∧ 0 ≤ s.2.1 ∧ s.2.1 ≤ s.2.2.1 ∧ s.2.2.1 ≤ 1000000000000 ∧ 0 ≤ s.2.2.2 ∧ s.2.2.2 ≤ 1000000000000
theorem cut_from {xs : List V} {k : Nat} (h : k ≤ xs.length) : cutV xs (some (k : Int)) none = xs.drop k := by
  unfold cutV
  rw [HT.sIx_nat, HT.sIx_none, Nat.min_eq_left h]
  rw [List.take_of_length_le]
  rw [List.length_drop]
  omega
theorem cut_to {xs : List V} {k : Nat} (h : k ≤ xs.length) : cutV xs none (some (k : Int)) = xs.take k := by
  unfold cutV
  rw [HT.sIx_nat, HT.sIx_none, Nat.min_eq_left h]
  rfl
/-! ### data compared -/
def stopD (s : Stp) : PyData := .tuple [.int s.1, .int s.2.1, .int s.2.2.1, .int s.2.2.2]
def stopsD (sts : List Stp) : PyData := .list (sts.map stopD)
theorem stop_dp {K : PySem.W.Frag} {H : Hp} {p : Addr} {s : Stp} (h : SqT K H p (stopV s)) : Dp K H (.ref p) (stopD s) := .tup h (.cons (.int _) (.cons (.int _) (.cons (.int _) (.cons (.int _) .nil))))
theorem stops_dpAll {K : PySem.W.Frag} {H : Hp} : ∀ {ps : List Addr} {sts : List Stp}, StopsR K H ps sts → DpAll K H (ps.map V.ref) (sts.map stopD)
  | [], [], _ => .nil
  | [], _ :: _, h => by cases h
  | _ :: _, [], h => by cases h
  | _ :: _, _ :: _, h => by
    cases h with
    | cons r t => exact .cons (stop_dp r) (stops_dpAll t)
theorem stops_dp {K : PySem.W.Frag} {H : Hp} {l : Addr} {ps : List Addr} {sts : List Stp} (hl : SqL K H l (ps.map V.ref)) (h : StopsR K H ps sts) : Dp K H (.ref l) (stopsD sts) := .lst hl (stops_dpAll h)
theorem canLay_stops : ∀ sts : List Stp, PyData.canLayAll0 (sts.map stopD) = true
  | [] => by simp [PyData.canLayAll0]
  | s :: r => by
    have ih := canLay_stops r
    simp only [List.map_cons, PyData.canLayAll0, ih, Bool.and_true]
    simp [stopD, PyData.canLay0, PyData.canLayAll0]
theorem depth_stops : ∀ sts : List Stp, PyData.depthAll (sts.map stopD) ≤ 3
  | [] => by simp [PyData.depthAll]
  | s :: r => by
    have ih := depth_stops r
    simp only [List.map_cons, PyData.depthAll]
    have : PyData.depth (stopD s) ≤ 3 := by simp [stopD, PyData.depth, PyData.depthAll]
    omega
theorem shaped_stops (sts : List Stp) : SeqAt.shaped (stopsD sts) = true := by
  have h1 := canLay_stops sts
  have h2 := depth_stops sts
  unfold SeqAt.shaped stopsD
  rw [Bool.and_eq_true]
  refine ⟨by simpa [PyData.canLay0] using h1, decide_eq_true ?_⟩
  simp only [PyData.depth]
  omega
theorem eqv_self {d : PyData} (h : SeqAt.shaped d = true) : PyData.eqv d d = true := SeqAt.eqv_refl d (SeqAt.canLay_of_shaped h)

/-! ### how many different numbers -/
theorem first_len (ns : List Int) : ∀ i, i ≤ ns.length → ((firstMet (fun j => ns.getD j 0) i).length ≤ i ∧ ((firstMet (fun j => ns.getD j 0) i).length = i → firstMet (fun j => ns.getD j 0) i = ns.take i ∧ (ns.take i).Nodup))
  | 0, _ => ⟨Nat.le_refl _, fun _ => ⟨rfl, List.nodup_nil⟩⟩
  | i + 1, hi => by
    obtain ⟨h1, h2⟩ := first_len ns i (Nat.le_of_lt hi)
    have at_i : ns.getD i 0 = ns[i]'hi := by
      rw [List.getD_eq_getElem?_getD, List.getElem?_eq_getElem hi]; rfl
    have tk : ns.take (i + 1) = ns.take i ++ [ns[i]'hi] := by
      rw [List.take_succ, List.getElem?_eq_getElem hi]; rfl
    have st : firstMet (fun j => ns.getD j 0) (i + 1) = if (firstMet (fun j => ns.getD j 0) i).any (· == ns.getD i 0) then firstMet (fun j => ns.getD j 0) i else firstMet (fun j => ns.getD j 0) i ++ [ns.getD i 0] := firstMet_succ _ _
    rw [st]
    by_cases c : (firstMet (fun j => ns.getD j 0) i).any (· == ns.getD i 0) = true
    · rw [if_pos c]
      exact ⟨Nat.le_succ_of_le h1, fun z => by omega⟩
    · rw [if_neg c, List.length_append, List.length_singleton]
      refine ⟨Nat.succ_le_succ h1, fun z => ?_⟩
      obtain ⟨e, nd⟩ := h2 (by omega)
      rw [e, at_i, tk]
      refine ⟨rfl, ?_⟩
      rw [List.nodup_append]
      refine ⟨nd, (by simp), fun x hx y hy => ?_⟩
      rw [List.mem_singleton.mp hy]
      rintro rfl
      refine c ?_
      rw [e, at_i]
      exact List.any_eq_true.mpr ⟨_, hx, beq_self_eq_true _⟩
theorem ints_are : ∀ {ns : List Int} {us : List Value}, Vals (ns.map V.int) us → IntsAre us ns
  | [], _, h => by cases h; exact .nil
  | n :: r, _, h => by
    cases h with
    | cons a b =>
      obtain ⟨k, rfl⟩ := a
      exact .cons n k (ints_are b)
def tLenset (K : PySem.W.Frag) (ta : TE) : TE := fun σ H Q => ta σ H fun x H1 => ∃ (l : Addr) (ns : List Int), x = .ref l ∧ SqL K H1 l (ns.map V.int) ∧ ns.length ≤ 4000 ∧ ∀ m : Nat, (ns.Nodup → m = ns.length) → (¬ ns.Nodup → m < ns.length) → Q (.int (m : Nat)) H1
theorem pe_lenset {X : Cx} {a : Expr} {ta : TE} {p p2 q pos : Pos} (gl : Gl X "len") (ml : X.mg "len" = none) (gs : Gl X "set") (ms : X.mg "set" = none) (ha : PE X a ta) (calm : X.calm = true)
    (na : starEach [a] X.env = (false, eval a X.env) :: starEach [] X.env := by rfl) : PE X (.Call (.Name "len" p) [.Call (.Name "set" p2) [a] [] q] [] pos) (tLenset X.K ta) := by
  refine ⟨fun ps0 st0 σ0 H0 W0 Inv0 asked => ?_⟩
  have inner := ha.run ps0 st0 σ0 H0 _ Inv0 asked
  refine Call_ (ld_blt Inv0 gl ml boot_len (callWith_builtin1 (args_cons ?_ rfl) rfl rfl))
  refine Call_ (ld_blt Inv0 gs ms boot_set (callWith_type1 (args_cons (thn inner ?_) na) na rfl))
  rintro v1 st1 ⟨x1, H1, Inv1, rel1, l, ns, rfl, sq, most, wish⟩
  refine args_nil ?_
  cases rel1
  obtain ⟨vals, relv, pl, _⟩ := Inv1.list sq
  have same : vals.toArray.size = ns.length := by
    rw [List.size_toArray, ← relv.length]; exact List.length_map _
  refine call_set_list (Inv1.ok.hd calm) pl.isList (by simpa using ints_are relv) (by rw [same]; unfold scanBound; omega) fun heap2 tk2 isSet kept => args_nil ?_
  rw [same] at isSet
  obtain ⟨ob, es, ep, t, atS, isS, dataS, _, _, _, fits, count⟩ := isSet
  obtain ⟨f1, f2⟩ := first_len ns ns.length (Nat.le_refl _)
  have Inv2 : Inv X ps0 σ0 H1 { st1 with heap := heap2, toks := tk2 } := Inv1.kept fun b o e => kept b o (Heap.lt_size e) e
  refine call_len_set atS isS dataS fits (by rw [count]; omega) ⟨.int ((firstMet (fun j => ns.getD j 0) ns.length).length : Nat), H1, Inv2.tok _, ⟨_, by rw [count]⟩, wish _ (fun nd => ?_) (fun nn => ?_)⟩
  · have e := RZ.firstMet_nodup nd ns.length (Nat.le_refl _)
    rw [e, List.take_length]
  · refine Nat.lt_of_le_of_ne f1 fun z => nn ?_
    have nd := (f2 z).2
    rw [List.take_length] at nd
    exact nd
/-! ### orders -/
def ordOk (ns : List Int) (many : Nat) : Prop := (∀ x ∈ ns, 0 ≤ x ∧ x < many) ∧ ns.Nodup
abbrev Row := Int × Int × Int
def rowV (r : Row) : List V := [.int r.1, .int r.2.1, .int r.2.2]
def RowsR (H : Hp) (qs : List Addr) (rs : List Row) : Prop := Paired (fun p s => H p = some (.tup (rowV s))) qs rs
theorem RowsR.ex {H H' : Hp} {qs : List Addr} {rs : List Row} (e : Ex H H') (h : RowsR H qs rs) : RowsR H' qs rs := Paired.mapP h fun _ _ q => e _ _ q
theorem RowsR.len {H : Hp} {qs : List Addr} {rs : List Row} (h : RowsR H qs rs) : qs.length = rs.length := Paired.length h
theorem RowsR.at_lst {H : Hp} {p : Addr} {ys : List V} {o : HO} {qs : List Addr} {rs : List Row} (hp : H p = some (.lst ys)) (h : RowsR H qs rs) : RowsR (upd H p o) qs rs := Paired.mapP h fun _ _ q => by rw [upd_ne (ne_of q hp (by intro z; cases z))]; exact q
theorem RowsR.snoc {H : Hp} {p : Addr} {s : Row} (hs : H p = some (.tup (rowV s))) : ∀ {qs : List Addr} {rs : List Row}, RowsR H qs rs → RowsR H (qs ++ [p]) (rs ++ [s])
  | [], [], _ => .cons hs .nil
  | [], _ :: _, h => by cases h
  | _ :: _, [], h => by cases h
  | _ :: _, _ :: _, h => by
    cases h with
    | cons r t => exact .cons r (RowsR.snoc hs t)
theorem RowsR.get {H : Hp} : ∀ {qs : List Addr} {rs : List Row} {i : Nat} {s : Row}, RowsR H qs rs → rs[i]? = some s → ∃ p, qs[i]? = some p ∧ H p = some (.tup (rowV s))
  | _, [], i, s, _, e => by simp at e
  | [], _ :: _, _, _, h, _ => by cases h
  | a :: as, x :: ss, 0, s, h, e => by
    cases h with
    | cons r t =>
      simp at e
      subst e
      exact ⟨a, rfl, r⟩
  | a :: as, x :: ss, i + 1, s, h, e => by
    cases h with
    | cons r t =>
      obtain ⟨z, h1, h2⟩ := RowsR.get (i := i) (s := s) t (by simpa using e)
      exact ⟨z, by simpa using h1, h2⟩
theorem split_last {α : Type} (xs : List α) : xs = [] ∨ ∃ ys y, xs = ys ++ [y] := by
  rcases List.eq_nil_or_concat xs with h | ⟨ys, y, h⟩
  · exact .inl h
  · exact .inr ⟨ys, y, by rw [h, List.concat_eq_append]⟩
theorem RowsR.last {H : Hp} {qs : List Addr} {rs : List Row} {x : Row} (h : RowsR H qs (rs ++ [x])) : ∃ qs' p, qs = qs' ++ [p] ∧ H p = some (.tup (rowV x)) := by
  obtain ⟨p, e, hp⟩ := h.get (i := rs.length) (s := x) (by simp)
  refine ⟨qs.take rs.length, p, ?_, hp⟩
  have hl := h.len
  rw [List.length_append, List.length_singleton] at hl
  have e2 : qs.take (rs.length + 1) = qs.take rs.length ++ [p] := by rw [List.take_succ, e]; rfl
  rw [← e2, List.take_of_length_le (by omega)]
theorem StopsR.at {K : PySem.W.Frag} {H : Hp} : ∀ {ps : List Addr} {sts : List Stp} {i : Nat} {s : Stp}, StopsR K H ps sts → sts[i]? = some s → ∃ p, ps[i]? = some p ∧ SqT K H p (stopV s)
  | _, [], i, s, _, e => by simp at e
  | [], _ :: _, _, _, h, _ => by cases h
  | a :: as, x :: ss, 0, s, h, e => by
    cases h with
    | cons r t =>
      simp at e
      subst e
      exact ⟨a, rfl, r⟩
  | a :: as, x :: ss, i + 1, s, h, e => by
    cases h with
    | cons r t =>
      obtain ⟨z, h1, h2⟩ := StopsR.at (i := i) (s := s) t (by simpa using e)
      exact ⟨z, by simpa using h1, h2⟩
/-- the stop of a number -/
def stAt (sts : List Stp) (n : Int) : Stp := (sts[n.toNat]?).getD (0, 0, 0, 0)
theorem stAt_eq {sts : List Stp} {n : Int} (h0 : 0 ≤ n) (h1 : n < sts.length) : sts[n.toNat]? = some (stAt sts n) := by
  have hl : n.toNat < sts.length := by omega
  unfold stAt
  rw [List.getElem?_eq_getElem hl]
  rfl
theorem stop_val {K : PySem.W.Frag} {H : Hp} {ps : List Addr} {sts : List Stp} {n : Int} (hP : StopsR K H ps sts) (h0 : 0 ≤ n) (h1 : n < sts.length) : ∃ p, atI (ps.map V.ref) n = some (.ref p) ∧ SqT K H p (stopV (stAt sts n)) := by
  obtain ⟨p, e, hp⟩ := hP.at (stAt_eq h0 h1)
  refine ⟨p, ?_, hp⟩
  have q := atI_nat (xs := ps.map V.ref) (j := n.toNat) (v := .ref p) (by rw [List.getElem?_map, e]; rfl)
  have ez : ((n.toNat : Nat) : Int) = n := by omega
  rw [ez] at q
  exact q
def maxOf (i j : Int) : Int := if j > i then j else i
/-- what the timetable is, from a place and a time on; none: missed -/
def rowsOf (ring : Bool) (len : Int) (sts : List Stp) : Int → Int → List Int → Option (List Row)
  | _, _, [] => some []
  | pl, t, n :: r => if t + apartOf ring len pl (stAt sts n).1 > (stAt sts n).2.2.1 then none else
    (rowsOf ring len sts (stAt sts n).1 (maxOf (t + apartOf ring len pl (stAt sts n).1) (stAt sts n).2.1 + (stAt sts n).2.2.2) r).map fun rs => (t + apartOf ring len pl (stAt sts n).1, maxOf (t + apartOf ring len pl (stAt sts n).1) (stAt sts n).2.1, maxOf (t + apartOf ring len pl (stAt sts n).1) (stAt sts n).2.1 + (stAt sts n).2.2.2) :: rs
theorem rows_miss {ring : Bool} {len pl t n : Int} {sts : List Stp} {r : List Int} (h : t + apartOf ring len pl (stAt sts n).1 > (stAt sts n).2.2.1) : rowsOf ring len sts pl t (n :: r) = none := by rw [rowsOf, if_pos h]
theorem rows_step {ring : Bool} {len pl t n : Int} {sts : List Stp} {r : List Int} (h : ¬ t + apartOf ring len pl (stAt sts n).1 > (stAt sts n).2.2.1) : rowsOf ring len sts pl t (n :: r) = (rowsOf ring len sts (stAt sts n).1 (maxOf (t + apartOf ring len pl (stAt sts n).1) (stAt sts n).2.1 + (stAt sts n).2.2.2) r).map fun rs => (t + apartOf ring len pl (stAt sts n).1, maxOf (t + apartOf ring len pl (stAt sts n).1) (stAt sts n).2.1, maxOf (t + apartOf ring len pl (stAt sts n).1) (stAt sts n).2.1 + (stAt sts n).2.2.2) :: rs := by rw [rowsOf, if_neg h]
theorem map_map_app {o : Option (List Row)} {a b : List Row} {x : Row} (h : b = a ++ [x]) : (o.map fun rs => x :: rs).map (fun rs => a ++ rs) = o.map fun rs => b ++ rs := by
  subst h
  cases o <;> simp
theorem rows_len {ring : Bool} {len : Int} {sts : List Stp} : ∀ {ns : List Int} {pl t : Int} {rs : List Row}, rowsOf ring len sts pl t ns = some rs → rs.length = ns.length
  | [], _, _, rs, h => by rw [rowsOf] at h; cases h; rfl
  | n :: r, pl, t, rs, h => by
    by_cases c : t + apartOf ring len pl (stAt sts n).1 > (stAt sts n).2.2.1
    · rw [rows_miss c] at h; cases h
    · rw [rows_step c] at h
      cases e : rowsOf ring len sts (stAt sts n).1 (maxOf (t + apartOf ring len pl (stAt sts n).1) (stAt sts n).2.1 + (stAt sts n).2.2.2) r with
      | none => rw [e] at h; cases h
      | some z =>
        rw [e] at h
        have h2 := Option.some.inj h
        rw [← h2, List.length_cons, rows_len e, List.length_cons]
/-- how the van goes on to a stop; none: it has closed -/
def goOn (ring : Bool) (len pl t : Int) (s : Stp) : Option Row := if t + apartOf ring len pl s.1 > s.2.2.1 then none else some (t + apartOf ring len pl s.1, maxOf (t + apartOf ring len pl s.1) s.2.1, maxOf (t + apartOf ring len pl s.1) s.2.1 + s.2.2.2)
theorem rows_go {ring : Bool} {len pl t n : Int} {sts : List Stp} {r : List Int} : rowsOf ring len sts pl t (n :: r) = (goOn ring len pl t (stAt sts n)).bind fun x => (rowsOf ring len sts (stAt sts n).1 x.2.2 r).map fun rs => x :: rs := by
  unfold goOn
  by_cases c : t + apartOf ring len pl (stAt sts n).1 > (stAt sts n).2.2.1
  · rw [rows_miss c, if_pos c]; rfl
  · rw [rows_step c, if_neg c]; rfl
/-! ### choices -/
def combos {α : Type} : Nat → List α → List (List α)
  | 0, _ => [[]]
  | _ + 1, [] => []
  | r + 1, x :: xs => (combos r xs).map (x :: ·) ++ combos (r + 1) xs
theorem mem_combos {α : Type} : ∀ {r : Nat} {xs d : List α}, d ∈ combos r xs ↔ d.Sublist xs ∧ d.length = r
  | 0, xs, d => by
    rw [combos.eq_def]
    simp only [List.mem_singleton]
    constructor
    · rintro rfl
      exact ⟨List.nil_sublist _, rfl⟩
    · rintro ⟨_, h⟩
      exact List.eq_nil_of_length_eq_zero h
  | r + 1, [], d => by
    simp only [combos, List.not_mem_nil, List.sublist_nil, false_iff]
    rintro ⟨rfl, h⟩
    cases h
  | r + 1, x :: xs, d => by
    simp only [combos, List.mem_append, List.mem_map, mem_combos (xs := xs)]
    constructor
    · rintro (⟨e, ⟨h1, h2⟩, rfl⟩ | ⟨h1, h2⟩)
      · exact ⟨h1.cons_cons x, by rw [List.length_cons, h2]⟩
      · exact ⟨h1.cons x, h2⟩
    · rintro ⟨h1, h2⟩
      cases h1 with
      | cons _ h => exact .inr ⟨h, h2⟩
      | cons_cons _ h => exact .inl ⟨_, ⟨h, by simpa using h2⟩, rfl⟩
theorem combos_map {α β : Type} (f : α → β) : ∀ (r : Nat) (xs : List α), combos r (xs.map f) = (combos r xs).map (List.map f)
  | 0, _ => by simp [combos]
  | _ + 1, [] => by simp [combos]
  | r + 1, x :: xs => by
    simp only [List.map_cons, combos, List.map_append, List.map_map, combos_map f r xs, combos_map f (r + 1) xs]
    rfl
theorem combos_nodup {α : Type} : ∀ (r : Nat) (xs : List α), xs.Nodup → (combos r xs).Nodup
  | 0, _, _ => by simp [combos]
  | _ + 1, [], _ => by simp [combos]
  | r + 1, x :: xs, h => by
    obtain ⟨h1, h2⟩ := List.nodup_cons.mp h
    simp only [combos]
    rw [List.nodup_append]
    refine ⟨?_, combos_nodup (r + 1) xs h2, ?_⟩
    · have i := combos_nodup r xs h2
      rw [List.Nodup, List.pairwise_map]
      exact i.imp fun n z => n (List.cons.inj z).2
    · intro a ha b hb e
      obtain ⟨d, _, rfl⟩ := List.mem_map.mp ha
      subst e
      exact h1 ((mem_combos.mp hb).1.subset (List.mem_cons_self ..))
/-! ### the table as data -/
abbrev TV := Int × Option Int
abbrev Way := Option Int × Int × Int
abbrev Key := List Int × Int
section
variable (go : Int → Int → Int → Option Int) (pl : Int → Int) (p0 t0 : Int)
def stepE (last : Int) (found : Option TV) (w : Way) : Option TV := match go w.2.1 w.2.2 last with
  | none => found
  | some t => match found with
    | none => some (t, w.1)
    | some f => if t < f.1 then some (t, w.1) else found
def early (ways : List Way) (last : Int) : Option TV := ways.foldl (stepE go last) none
def othersOf (done : List Int) (last : Int) : List Int := done.filter fun n => decide (n ≠ last)
def waysOf (f : Int → Option TV) (others : List Int) : List Way := others.filterMap fun n => (f n).map fun v => (some n, pl n, v.1)
def cellF : Nat → List Int → Int → Option TV
  | 0, _, _ => none
  | k + 1, done, last => early go (if othersOf done last = [] then [(none, p0, t0)] else waysOf pl (fun n => cellF k (othersOf done last) n) (othersOf done last)) last
/-- what the table has at a key -/
def cell (done : List Int) (last : Int) : Option TV := cellF go pl p0 t0 done.length done last
theorem others_len {done : List Int} {last : Int} (nd : done.Nodup) (m : last ∈ done) : (othersOf done last).length + 1 = done.length := by
  have e : othersOf done last = done.erase last := by
    rw [nd.erase_eq_filter]
    unfold othersOf
    congr 1
    funext n
    by_cases c : n = last
    · subst c; simp
    · simp [c]
  rw [e, List.length_erase_of_mem m]
  have : 0 < done.length := List.length_pos_of_mem m
  omega
theorem cell_eq {done : List Int} {last : Int} (nd : done.Nodup) (m : last ∈ done) : cell go pl p0 t0 done last = early go (if othersOf done last = [] then [(none, p0, t0)] else waysOf pl (cell go pl p0 t0 (othersOf done last)) (othersOf done last)) last := by
  unfold cell
  have l := others_len nd m
  rw [← l, cellF]
theorem early_none {ways : List Way} {last : Int} : early go ways last = none ↔ ∀ w ∈ ways, go w.2.1 w.2.2 last = none := by
  have gen : ∀ (ws : List Way) (f : Option TV), ws.foldl (stepE go last) f = none ↔ f = none ∧ ∀ w ∈ ws, go w.2.1 w.2.2 last = none := by
    intro ws
    induction ws with
    | nil => intro f; simp
    | cons w r ih =>
      intro f
      rw [List.foldl_cons, ih]
      unfold stepE
      cases e : go w.2.1 w.2.2 last with
      | none => simp [e]
      | some t =>
        cases f with
        | none => simp [e]
        | some g => simp only [List.mem_cons, forall_eq_or_imp, e]; split <;> simp
  have := gen ways none
  simpa [early] using this
/-- the first of the least -/
def FirstLeast (ways : List Way) (last : Int) (v : TV) : Prop := ∃ pre w post, ways = pre ++ w :: post ∧ go w.2.1 w.2.2 last = some v.1 ∧ w.1 = v.2 ∧ (∀ x ∈ pre, ∀ t, go x.2.1 x.2.2 last = some t → v.1 < t) ∧ (∀ x ∈ post, ∀ t, go x.2.1 x.2.2 last = some t → v.1 ≤ t)
theorem early_some {ways : List Way} {last : Int} {v : TV} (h : early go ways last = some v) : FirstLeast go ways last v := by
  have gen : ∀ (ws : List Way) (before : List Way) (f : Option TV), (f = none → ∀ x ∈ before, go x.2.1 x.2.2 last = none) → (∀ u, f = some u → FirstLeast go before last u) → ∀ v, ws.foldl (stepE go last) f = some v → FirstLeast go (before ++ ws) last v := by
    intro ws
    induction ws with
    | nil => intro before f h1 h2 v e; rw [List.append_nil]; exact h2 v e
    | cons w r ih =>
      intro before f h1 h2 v e
      have same : before ++ w :: r = (before ++ [w]) ++ r := by rw [List.append_assoc]; rfl
      rw [same]
      rw [List.foldl_cons] at e
      refine ih (before ++ [w]) _ (fun n x hx => ?_) (fun u hu => ?_) v e
      · unfold stepE at n
        cases c : go w.2.1 w.2.2 last with
        | none =>
          rw [c] at n
          rcases List.mem_append.mp hx with hx | hx
          · exact h1 n x hx
          · rw [List.mem_singleton.mp hx]; exact c
        | some t =>
          rw [c] at n
          cases f with
          | none => cases n
          | some g => dsimp only at n; split at n <;> cases n
      · unfold stepE at hu
        cases c : go w.2.1 w.2.2 last with
        | none =>
          rw [c] at hu
          obtain ⟨pre, y, post, e1, e2, e3, e4, e5⟩ := h2 u hu
          refine ⟨pre, y, post ++ [w], by rw [e1]; simp, e2, e3, e4, fun x hx t ht => ?_⟩
          rcases List.mem_append.mp hx with hx | hx
          · exact e5 x hx t ht
          · rw [List.mem_singleton.mp hx, c] at ht; cases ht
        | some t =>
          rw [c] at hu
          cases f with
          | none =>
            dsimp only at hu
            obtain rfl := Option.some.inj hu
            refine ⟨before, w, [], rfl, c, rfl, fun x hx t2 ht => ?_, fun x hx => by cases hx⟩
            rw [h1 rfl x hx] at ht; cases ht
          | some g =>
            dsimp only at hu
            by_cases lt : t < g.1
            · rw [if_pos lt] at hu
              obtain rfl := Option.some.inj hu
              refine ⟨before, w, [], rfl, c, rfl, fun x hx t2 ht => ?_, fun x hx => by cases hx⟩
              obtain ⟨pre, y, post, e1, e2, e3, e4, e5⟩ := h2 g rfl
              show t < t2
              rw [e1] at hx
              rcases List.mem_append.mp hx with hx | hx
              · have := e4 x hx t2 ht; omega
              rcases List.mem_cons.mp hx with rfl | hx
              · rw [e2] at ht
                have := Option.some.inj ht
                omega
              · have := e5 x hx t2 ht; omega
            · rw [if_neg lt] at hu
              obtain rfl := Option.some.inj hu
              obtain ⟨pre, y, post, e1, e2, e3, e4, e5⟩ := h2 g rfl
              refine ⟨pre, y, post ++ [w], by rw [e1]; simp, e2, e3, e4, fun x hx t2 ht => ?_⟩
              rcases List.mem_append.mp hx with hx | hx
              · exact e5 x hx t2 ht
              · rw [List.mem_singleton.mp hx, c] at ht
                have := Option.some.inj ht
                omega
  exact gen ways [] none (fun _ x hx => by cases hx) (fun u hu => by cases hu) v h
theorem early_le {ways : List Way} {last : Int} {w : Way} {t : Int} (m : w ∈ ways) (h : go w.2.1 w.2.2 last = some t) : ∃ v, early go ways last = some v ∧ v.1 ≤ t := by
  cases e : early go ways last with
  | none => rw [(early_none go).mp e w m] at h; cases h
  | some v =>
    refine ⟨v, rfl, ?_⟩
    obtain ⟨pre, y, post, e1, e2, e3, e4, e5⟩ := early_some go e
    rw [e1] at m
    rcases List.mem_append.mp m with m | m
    · exact Int.le_of_lt (e4 w m t h)
    rcases List.mem_cons.mp m with rfl | m
    · rw [e2] at h
      exact Int.le_of_eq (Option.some.inj h)
    · exact e5 w m t h
/-- all keys, in the order in which they come -/
def keysD (d : List Int) : List Key := d.map fun l => (d, l)
def keysR (rest : List Int) (r : Nat) : List Key := (combos r rest).flatMap keysD
def keysUpTo (rest : List Int) : Nat → List Key
  | 0 => []
  | r + 1 => keysUpTo rest r ++ keysR rest (r + 1)
def entOf (k : Key) : Option (Key × TV) := (cell go pl p0 t0 k.1 k.2).map fun v => (k, v)
def entsOf (ks : List Key) : List (Key × TV) := ks.filterMap (entOf go pl p0 t0)
def look (es : List (Key × TV)) (k : Key) : Option TV := (es.find? fun e => decide (e.1 = k)).map (·.2)
theorem look_ents (ks : List Key) (k : Key) : look (entsOf go pl p0 t0 ks) k = if k ∈ ks then cell go pl p0 t0 k.1 k.2 else none := by
  induction ks with
  | nil => rfl
  | cons x r ih =>
    unfold entsOf at ih ⊢
    rw [List.filterMap_cons]
    unfold entOf at ih ⊢
    cases e : cell go pl p0 t0 x.1 x.2 with
    | none =>
      simp only [Option.map_none]
      rw [ih]
      by_cases c : k = x
      · subst c
        rw [if_pos (List.mem_cons_self ..), e]
        split <;> rfl
      · have : (k ∈ x :: r) ↔ k ∈ r := by simp [c]
        simp only [this]
    | some v =>
      simp only [Option.map_some]
      by_cases c : x = k
      · subst c
        rw [if_pos (List.mem_cons_self ..), e]
        simp [look]
      · have : (k ∈ x :: r) ↔ k ∈ r := by simp [Ne.symm c]
        simp only [this]
        rw [← ih]
        simp [look, c]
theorem mem_keysR {rest : List Int} {r : Nat} {k : Key} : k ∈ keysR rest r ↔ k.1.Sublist rest ∧ k.1.length = r ∧ k.2 ∈ k.1 := by
  unfold keysR keysD
  simp only [List.mem_flatMap, List.mem_map, mem_combos]
  constructor
  · rintro ⟨d, ⟨h1, h2⟩, l, hl, rfl⟩
    exact ⟨h1, h2, hl⟩
  · rintro ⟨h1, h2, h3⟩
    exact ⟨k.1, ⟨h1, h2⟩, k.2, h3, rfl⟩
theorem mem_keysUpTo {rest : List Int} {k : Key} : ∀ {n : Nat}, k ∈ keysUpTo rest n ↔ k.1.Sublist rest ∧ k.1.length ≤ n ∧ k.2 ∈ k.1
  | 0 => by
    simp only [keysUpTo, List.not_mem_nil, false_iff]
    rintro ⟨_, h2, h3⟩
    have := List.length_pos_of_mem h3
    omega
  | n + 1 => by
    rw [keysUpTo, List.mem_append, mem_keysUpTo (n := n), mem_keysR]
    constructor
    · rintro (⟨h1, h2, h3⟩ | ⟨h1, h2, h3⟩)
      · exact ⟨h1, by omega, h3⟩
      · exact ⟨h1, by omega, h3⟩
    · rintro ⟨h1, h2, h3⟩
      by_cases c : k.1.length ≤ n
      · exact .inl ⟨h1, c, h3⟩
      · exact .inr ⟨h1, by omega, h3⟩
def keysAll (rest : List Int) : List Key := keysUpTo rest rest.length
theorem mem_keysAll {rest : List Int} {k : Key} : k ∈ keysAll rest ↔ k.1.Sublist rest ∧ k.2 ∈ k.1 := by
  unfold keysAll
  rw [mem_keysUpTo]
  constructor
  · rintro ⟨a, _, b⟩; exact ⟨a, b⟩
  · rintro ⟨a, b⟩; exact ⟨a, a.length_le, b⟩
theorem keysR_nodup {rest : List Int} (nd : rest.Nodup) (r : Nat) : (keysR rest r).Nodup := by
  unfold keysR
  have hd : ∀ d ∈ combos r rest, (keysD d).Nodup := by
    intro d hd
    have := (mem_combos.mp hd).1.nodup nd
    unfold keysD
    rw [List.Nodup, List.pairwise_map]
    exact this.imp fun n z => n (Prod.mk.inj z).2
  have hc := combos_nodup r rest nd
  generalize combos r rest = cs at hd hc
  induction cs with
  | nil => exact List.nodup_nil
  | cons d r ih =>
    obtain ⟨h1, h2⟩ := List.nodup_cons.mp hc
    rw [List.flatMap_cons, List.nodup_append]
    refine ⟨hd d (List.mem_cons_self ..), ih (fun x hx => hd x (List.mem_cons_of_mem _ hx)) h2, fun a ha b hb e => ?_⟩
    subst e
    obtain ⟨x, hx, hb⟩ := List.mem_flatMap.mp hb
    obtain ⟨l, _, rfl⟩ := List.mem_map.mp ha
    obtain ⟨l2, _, e2⟩ := List.mem_map.mp hb
    have : x = d := (Prod.mk.inj e2).1
    subst this
    exact h1 hx
theorem keysUpTo_nodup {rest : List Int} (nd : rest.Nodup) : ∀ n, (keysUpTo rest n).Nodup
  | 0 => List.nodup_nil
  | n + 1 => by
    rw [keysUpTo, List.nodup_append]
    refine ⟨keysUpTo_nodup nd n, keysR_nodup nd _, fun a ha b hb e => ?_⟩
    subst e
    have h1 := (mem_keysUpTo.mp ha).2.1
    have h2 := (mem_keysR.mp hb).2.1
    omega
end

/-! ### combinations of a tuple -/
theorem mro_cmb : mroOf (.type "itertools.combinations") = pure [.type "itertools.combinations", .type "object"] := by rw [mroOf_type]; kernel_rfl
theorem look_cmb_new : typeLookup (.type "itertools.combinations") "__new__" = pure (some (.builtin "itertools.combinations.__new__")) := by rw [typeLookup_type, builtinLookup_eq_fast]; kernel_rfl
theorem init_cmb : Slot "itertools.combinations" "__init__" "object.__init__" :=
  .of (owner := "object") (n := "__init__") (by rw [typeLookup_type, builtinLookup_eq_fast]; kernel_rfl) (by decide +kernel) (by decide +kernel) (by decide +kernel)
    (by first | exact .inl (by decide +kernel) | exact .inr (by decide +kernel)) (by rw [isSubtype_type]; kernel_rfl)
theorem sub_cmb : isSubtype (.type "itertools.combinations") (.type "itertools.combinations") = pure true := by rw [isSubtype_type]; kernel_rfl
theorem called_cmb : TypeCalled "itertools.combinations" "itertools.combinations.__new__" "object.__init__" :=
  ⟨by decide +kernel, by decide +kernel, ⟨_, _, mro_cmb⟩, madeBy_type mro_cmb look_cmb_new (by decide +kernel), by decide +kernel, sub_cmb, init_cmb⟩
theorem tcall_cmb (a b : Value) : checkTypeCall "itertools.combinations" ⟨[a, b], []⟩ = pure () := by kernel_rfl
theorem ncall_cmb (a b : Value) : checkBuiltinCall "itertools.combinations.__new__" ⟨[.type "itertools.combinations", a, b], []⟩ = pure () := by kernel_rfl
theorem ent_cmb_new : entryFor table "itertools.combinations.__new__" = some Builtin.«itertools.combinations.__new__» := entryFor_of_tree (by kernel_rfl)
theorem iter_cmb : Slot "itertools.combinations" "__iter__" "itertools.combinations.__iter__" :=
  .of (owner := "itertools.combinations") (n := "__iter__") (by rw [typeLookup_type, builtinLookup_eq_fast]; kernel_rfl) (by decide +kernel) (by decide +kernel) (by decide +kernel)
    (by first | exact .inl (by decide +kernel) | exact .inr (by decide +kernel)) sub_cmb
theorem next_cmb : Slot "itertools.combinations" "__next__" "itertools.combinations.__next__" :=
  .of (owner := "itertools.combinations") (n := "__next__") (by rw [typeLookup_type, builtinLookup_eq_fast]; kernel_rfl) (by decide +kernel) (by decide +kernel) (by decide +kernel)
    (by first | exact .inl (by decide +kernel) | exact .inr (by decide +kernel)) sub_cmb
theorem ent_cmb_iter : entryFor table "itertools.combinations.__iter__" = some Builtin.«dict_keyiterator.__iter__» :=
  entryFor_alias (id' := "dict_keyiterator.__iter__") (by kernel_rfl) (by first | rfl | decide +kernel | (unfold String.splitOn; simp +decide [String.splitOnAux])) (by decide +kernel) (by kernel_rfl)
theorem ent_cmb_next : entryFor table "itertools.combinations.__next__" = some Builtin.«itertools.combinations.__next__» := entryFor_of_tree (by kernel_rfl)
theorem own_cmb : Manifest.owners.lookup (String.ofList ("itertools.combinations".toList)) = some Manifest.sig_itertools_combinations := by kernel_rfl
theorem arg_cmb_iter (a : Value) : argsOk "itertools.combinations.__iter__" ⟨[a], []⟩ := by
  unfold argsOk; rw [signature?_of (id := "itertools.combinations.__iter__") (n := "__iter__".toList.reverse) (o := "itertools.combinations".toList.reverse) (by kernel_rfl) (by rw [List.reverse_reverse]; exact own_cmb)]; kernel_rfl
theorem arg_cmb_next (a : Value) : argsOk "itertools.combinations.__next__" ⟨[a], []⟩ := by
  unfold argsOk; rw [signature?_of (id := "itertools.combinations.__next__") (n := "__next__".toList.reverse) (o := "itertools.combinations".toList.reverse) (by kernel_rfl) (by rw [List.reverse_reverse]; exact own_cmb)]; kernel_rfl
theorem nod_cmb : typeHasDict (.type "itertools.combinations") = false := by decide +kernel
def nextC (n : Nat) (ix : List Nat) : Option (List Nat) := match (List.range ix.length).reverse.find? fun i => ix.getD i 0 != i + n - ix.length with
  | none => none
  | some i => some (ix.take i ++ (List.range (ix.length - i)).map (ix.getD i 0 + 1 + ·))
/-- a combinations object: its pool, how far it is, the last one, the numbers -/
def CmbAt (h : Heap) (it pool : Addr) (st : Int) (last : Value) (ix : List Nat) : Prop := ∃ fs : Array Value, h.get? it = some { cls := .type "itertools.combinations", dict := none, data := .fields fs, slots := #[] } ∧ fs.toList = .ref pool :: .int st 0 :: last :: ix.map fun i : Nat => rawInt i
theorem fs_at {fs : Array Value} {xs : List Value} {i : Nat} {x : Value} (h : fs.toList = xs) (e : xs[i]? = some x) : fs[i]? = some x := by rw [← Array.getElem?_toList, h]; exact e
theorem numbers_of (ix : List Nat) : (ix.map fun i : Nat => rawInt i).map (fun | .int n _ => n.toNat | _ => 0) = ix := by
  induction ix with
  | nil => rfl
  | cons a r ih =>
    rw [List.map_cons, List.map_cons, ih]
    rfl
section
variable {prog : Program} {w : World} {A : Around} {E : Value → Shared → Prop} {s : Shared}
theorem run_numbers {it : Addr} {fs : Array Value} {a b c : Value} {ix : List Nat} {Q : List Nat → Shared → Prop} (hfs : s.heap.get? it = some { cls := .type "itertools.combinations", dict := none, data := .fields fs, slots := #[] }) (lst : fs.toList = a :: b :: c :: ix.map fun i : Nat => rawInt i) (h : Q ix s) : wpAny (model prog w) A (Builtin.Itertools.itNumbersFrom (.ref it) 3) Q E s := by
  unfold Builtin.Itertools.itNumbersFrom
  refine wpAny_bind (wpAny_load hfs (wpAny_pure ?_))
  rw [lst]
  exact Eq.mpr (congrArg (fun z => Q z s) (numbers_of ix)) h
theorem cmb_hand {it pool : Addr} {st : Int} {last : Value} {ix : List Nat} {its : Array Value} {Q : Value → Shared → Prop} (ne : it ≠ pool) (less : ix.length ≤ 1000) (hit : CmbAt s.heap it pool st last ix) (hp : s.heap.IsTuple pool its)
    (hQ : ∀ h', CmbAt h' it pool st (.ref s.heap.objs.size) ix → h'.get? s.heap.objs.size = some { cls := .type "tuple", data := .seq (ix.map fun i => its.toList.getD i .none).toArray } → (∀ b o, b ≠ it → s.heap.get? b = some o → h'.get? b = some o) → Q (.ref s.heap.objs.size) { s with heap := h' }) :
    wpAny (model prog w) A ((Builtin.Itertools.itPoolItems (.ref pool) >>= fun items => newTuple (ix.map fun i => items.getD i .none)) >>= fun result => field (.ref it) 2 >>= fun before => setField (.ref it) 2 result >>= fun _ => letGo [before] [result] >>= fun _ => ret result) (fun fin s' => ∃ v, fin = .done (.ret v) ∧ Q v s') E s := by
  obtain ⟨ol, hol, _, nl, hdl⟩ := hp
  obtain ⟨fs, hfs, lst⟩ := hit
  have lt : it < s.heap.objs.size := Heap.lt_size hfs
  unfold Builtin.Itertools.itPoolItems
  refine wpAny_bind (wpAny_bind (wpAny_bind (wpAny_seqItems hol hdl (wpAny_pure ?_))))
  refine (wpAny_newTuple (hsz := by rw [List.length_map, sizeLine_eq]; omega) ?_)
  have hit2 : (s.heap.push { cls := .type "tuple", data := .seq (ix.map fun i => its.getD i .none).toArray }).get? it = some { cls := .type "itertools.combinations", dict := none, data := .fields fs, slots := #[] } := Heap.get?_push_of_some _ hfs
  refine wpAny_bind (wpAny_field hit2 rfl (x := last) (fs_at lst rfl) ?_)
  have long : 2 < fs.size := by rw [← Array.length_toList, lst]; simp
  refine wpAny_bind (wpAny_setField hit2 rfl long ?_)
  refine wpAny_bind (wpAny_letGo (wpAny_pure ⟨_, rfl, hQ _ ⟨_, Heap.get?_update_self _ hit2 rfl, ?_⟩ ?_ fun b o nb e => ?_⟩))
  · rw [Array.toList_setIfInBounds, lst]; rfl
  · rw [Heap.get?_update_other _ _ (Nat.ne_of_lt lt)]
    have e : (ix.map fun i => its.getD i Value.none) = ix.map fun i => its.toList.getD i .none := by
      congr 1; funext i; simp [Array.getD_eq_getD_getElem?, List.getD_eq_getElem?_getD]
    rw [e]
    exact Heap.get?_push_size _ rfl
  · exact (Heap.get?_update_other _ _ (Ne.symm nb)).trans (Heap.get?_push_of_some _ e)
theorem cmb_first {it pool : Addr} {last : Value} {ix : List Nat} {its : Array Value} {Q : Value → Shared → Prop} (ne : it ≠ pool) (less : ix.length ≤ 1000) (hit : CmbAt s.heap it pool 0 last ix) (hp : s.heap.IsTuple pool its)
    (hQ : ∀ h', CmbAt h' it pool 1 (.ref s.heap.objs.size) ix → h'.get? s.heap.objs.size = some { cls := .type "tuple", data := .seq (ix.map fun i => its.toList.getD i .none).toArray } → (∀ b o, b ≠ it → s.heap.get? b = some o → h'.get? b = some o) → Q (.ref s.heap.objs.size) { s with heap := h' }) :
    wpAny (model prog w) A (Builtin.«itertools.combinations.__next__» ⟨[.ref it], []⟩) (fun fin s' => ∃ v, fin = .done (.ret v) ∧ Q v s') E s := by
  obtain ⟨fs, hfs, lst⟩ := id hit
  show wpAny _ _ (field (.ref it) 0 >>= _) _ _ s
  refine wpAny_bind (wpAny_field hfs rfl (x := .ref pool) (fs_at lst rfl) ?_)
  show wpAny _ _ (Builtin.Itertools.itNumbersFrom (.ref it) 3 >>= _) _ _ s
  refine wpAny_bind (run_numbers hfs lst ?_)
  refine wpAny_bind ?_
  unfold Builtin.Itertools.itIntField
  refine wpAny_bind (wpAny_field hfs rfl (x := .int 0 0) (fs_at lst rfl) (wpAny_pure ?_))
  show wpAny _ _ (setField (.ref it) 1 (rawInt 1) >>= _) _ _ s
  have long : 1 < fs.size := by rw [← Array.length_toList, lst]; simp
  refine wpAny_bind (wpAny_setField hfs rfl long ?_)
  have hit2 : CmbAt (s.heap.update it (Obj.mapFields fun x => x.setIfInBounds 1 (rawInt 1))) it pool 1 last ix := ⟨_, Heap.get?_update_self _ hfs rfl, by rw [Array.toList_setIfInBounds, lst]; rfl⟩
  have hp2 : (s.heap.update it (Obj.mapFields fun x => x.setIfInBounds 1 (rawInt 1))).IsTuple pool its := by
    obtain ⟨ol, hol, c, d⟩ := hp
    exact ⟨ol, (Heap.get?_update_other _ _ ne).trans hol, c, d⟩
  have hz : (s.heap.update it (Obj.mapFields fun x => x.setIfInBounds 1 (rawInt 1))).objs.size = s.heap.objs.size := (Heap.SameBut.update (h := s.heap) (a := it) (f := Obj.mapFields fun x => x.setIfInBounds 1 (rawInt 1))).1
  refine cmb_hand (s := { s with heap := s.heap.update it (Obj.mapFields fun x => x.setIfInBounds 1 (rawInt 1)) }) ne less hit2 hp2 fun h' c t k => ?_
  rw [show ({ s with heap := s.heap.update it (Obj.mapFields fun x => x.setIfInBounds 1 (rawInt 1)) } : Shared).heap.objs.size = s.heap.objs.size from hz] at c t ⊢
  exact hQ h' c t fun b o nb e => k b o nb ((Heap.get?_update_other _ _ (Ne.symm nb)).trans e)
theorem cmb_more {it pool : Addr} {last : Value} {ix jx : List Nat} {its : Array Value} {Q : Value → Shared → Prop} (ne : it ≠ pool) (hit : CmbAt s.heap it pool 1 last ix) (hp : s.heap.IsTuple pool its) (nx : nextC its.size ix = some jx) (less : jx.length ≤ 1000)
    (hQ : ∀ h', CmbAt h' it pool 1 (.ref s.heap.objs.size) jx → h'.get? s.heap.objs.size = some { cls := .type "tuple", data := .seq (jx.map fun i => its.toList.getD i .none).toArray } → (∀ b o, b ≠ it → s.heap.get? b = some o → h'.get? b = some o) → Q (.ref s.heap.objs.size) { s with heap := h' }) :
    wpAny (model prog w) A (Builtin.«itertools.combinations.__next__» ⟨[.ref it], []⟩) (fun fin s' => ∃ v, fin = .done (.ret v) ∧ Q v s') E s := by
  obtain ⟨fs, hfs, lst⟩ := id hit
  show wpAny _ _ (field (.ref it) 0 >>= _) _ _ s
  refine wpAny_bind (wpAny_field hfs rfl (x := .ref pool) (fs_at lst rfl) ?_)
  show wpAny _ _ (Builtin.Itertools.itNumbersFrom (.ref it) 3 >>= _) _ _ s
  refine wpAny_bind (run_numbers hfs lst ?_)
  refine wpAny_bind ?_
  unfold Builtin.Itertools.itIntField
  refine wpAny_bind (wpAny_field hfs rfl (x := .int 1 0) (fs_at lst rfl) (wpAny_pure ?_))
  obtain ⟨ol, hol, c, nl, hdl⟩ := id hp
  show wpAny _ _ (Builtin.Itertools.itPoolItems (.ref pool) >>= _) _ _ s
  refine wpAny_bind ?_
  unfold Builtin.Itertools.itPoolItems
  refine wpAny_bind (wpAny_seqItems hol hdl (wpAny_pure ?_))
  show wpAny _ _ (match nextC its.size ix with | some next => _ | none => _) _ _ _
  rw [nx]
  show wpAny _ _ (Builtin.Itertools.itSetNumbersFrom (.ref it) 3 jx >>= _) _ _ _
  refine wpAny_bind ?_
  unfold Builtin.Itertools.itSetNumbersFrom
  have lst2 : (fs.extract 0 3 ++ (jx.map fun n : Nat => rawInt n).toArray).toList = .ref pool :: .int 1 0 :: last :: jx.map fun i : Nat => rawInt i := by
    rw [Array.toList_append, Array.toList_extract, lst]; rfl
  have small : (fs.extract 0 3 ++ (jx.map fun n : Nat => rawInt n).toArray).size ≤ sizeLine + 3 := by
    rw [← Array.length_toList, lst2, sizeLine_eq]
    simp only [List.length_cons, List.length_map]
    omega
  refine wpAny_updateFields (hz := small) hfs rfl ?_
  have hit2 : CmbAt (s.heap.update it (Obj.mapFields fun fs => fs.extract 0 3 ++ (jx.map fun n : Nat => rawInt n).toArray)) it pool 1 last jx := ⟨_, Heap.get?_update_self _ hfs rfl, lst2⟩
  have hp2 : (s.heap.update it (Obj.mapFields fun fs => fs.extract 0 3 ++ (jx.map fun n : Nat => rawInt n).toArray)).IsTuple pool its := ⟨ol, (Heap.get?_update_other _ _ ne).trans hol, c, nl, hdl⟩
  have hz : (s.heap.update it (Obj.mapFields fun fs => fs.extract 0 3 ++ (jx.map fun n : Nat => rawInt n).toArray)).objs.size = s.heap.objs.size := (Heap.SameBut.update (h := s.heap) (a := it) (f := Obj.mapFields fun fs => fs.extract 0 3 ++ (jx.map fun n : Nat => rawInt n).toArray)).1
  refine cmb_hand (s := { s with heap := s.heap.update it (Obj.mapFields fun fs => fs.extract 0 3 ++ (jx.map fun n : Nat => rawInt n).toArray) }) ne less hit2 hp2 fun h' c t k => ?_
  rw [show ({ s with heap := s.heap.update it (Obj.mapFields fun fs => fs.extract 0 3 ++ (jx.map fun n : Nat => rawInt n).toArray) } : Shared).heap.objs.size = s.heap.objs.size from hz] at c t ⊢
  exact hQ h' c t fun b o nb e => k b o nb ((Heap.get?_update_other _ _ (Ne.symm nb)).trans e)
theorem cmb_end {it pool : Addr} {last : Value} {ix : List Nat} {its : Array Value} {Q : Fin → Shared → Prop} (hh : A.handled = none) (ne : it ≠ pool) (hit : CmbAt s.heap it pool 1 last ix) (hp : s.heap.IsTuple pool its) (nx : nextC its.size ix = none)
    (hE : ∀ h' e, (∀ b o, b ≠ it → s.heap.get? b = some o → h'.get? b = some o) → (∃ o, h'.get? e = some o ∧ o.cls = .type "StopIteration") → E (.ref e) { s with heap := h' }) :
    wpAny (model prog w) A (Builtin.«itertools.combinations.__next__» ⟨[.ref it], []⟩) Q E s := by
  obtain ⟨fs, hfs, lst⟩ := id hit
  show wpAny _ _ (field (.ref it) 0 >>= _) _ _ s
  refine wpAny_bind (wpAny_field hfs rfl (x := .ref pool) (fs_at lst rfl) ?_)
  show wpAny _ _ (Builtin.Itertools.itNumbersFrom (.ref it) 3 >>= _) _ _ s
  refine wpAny_bind (run_numbers hfs lst ?_)
  refine wpAny_bind ?_
  unfold Builtin.Itertools.itIntField
  refine wpAny_bind (wpAny_field hfs rfl (x := .int 1 0) (fs_at lst rfl) (wpAny_pure ?_))
  obtain ⟨ol, hol, c, nl, hdl⟩ := id hp
  show wpAny _ _ (Builtin.Itertools.itPoolItems (.ref pool) >>= _) _ _ s
  refine wpAny_bind ?_
  unfold Builtin.Itertools.itPoolItems
  refine wpAny_bind (wpAny_seqItems hol hdl (wpAny_pure ?_))
  show wpAny _ _ (match nextC its.size ix with | some next => _ | none => _) _ _ _
  rw [nx]
  have long : 1 < fs.size := by rw [← Array.length_toList, lst]; simp
  show wpAny _ _ (setField (.ref it) 1 (rawInt 2) >>= _) _ _ _
  refine wpAny_bind (wpAny_setField hfs rfl long ?_)
  show wpAny _ _ (newExc (.type "StopIteration") [] >>= _) _ _ _
  refine wpAny_bind ?_
  simp only [newExc, newTuple]
  refine wpAny_bind (wpAny_newObj_type ?_ (by size_fits))
  refine wpAny_bind (m := firstArgMember _ _) (wpAny_of_eq (a := Value.none) (by first | rfl | (simp only [firstArgMember]; rfl)) ?_)
  refine wpAny_newObj_type ?_ (by size_fits)
  simp only [raiseNew]
  refine wpAny_bind (wpAny_handled ?_)
  first | rw [show A.in1.handled = none from hh] | rw [hh]
  refine wpAny_bind (wpAny_pure (wpAny_throw ?_))
  exact hE _ _ (fun b o nb e => Heap.get?_push_of_some _ (Heap.get?_push_of_some _ ((Heap.get?_update_other _ _ (Ne.symm nb)).trans e))) ⟨_, Heap.get?_push_size _ rfl, rfl⟩
end
section
variable {prog : Program} {w : World} {A : Around} {E : Value → Shared → Prop} {s : Shared}
theorem cmb_class {a b : Value} {Q : Value × List Value → Shared → Prop} (h : Q (.type "itertools.combinations", [a, b]) s) : wpAny (model prog w) A (Builtin.Itertools.itClassAndRest "combinations" ⟨[.type "itertools.combinations", a, b], []⟩) Q E s := by
  have word : ("itertools." ++ "combinations" : String) = "itertools.combinations" := by decide
  have sub2 : isSubtype (.type "itertools.combinations") (.type ("itertools." ++ "combinations")) = pure true := by rw [word]; exact sub_cmb
  unfold Builtin.Itertools.itClassAndRest
  show wpAny _ _ (isType (.type "itertools.combinations") >>= _) _ _ s
  refine wpAny_bind (wpAny_of_eq (a := true) rfl ?_)
  show wpAny _ _ (isSubtype (.type "itertools.combinations") (.type ("itertools." ++ "combinations")) >>= _) _ _ s
  refine wpAny_bind (wpAny_of_eq (a := true) sub2 ?_)
  exact wpAny_pure h
theorem cmb_bind {a b : Value} {Q : List (Option Value) → Shared → Prop} (h : Q [some a, some b] s) : wpAny (model prog w) A (Builtin.Itertools.itBindNamed "combinations" ["iterable", "r"] 2 2 [a, b] []) Q E s := by
  refine wpAny_of_eq (a := [some a, some b]) ?_ h
  rfl
theorem cmb_size {r : Nat} {t : Tok} {Q : Int → Shared → Prop} (hr : r ≤ 1000) (h : Q r s) : wpAny (model prog w) A (Builtin.Itertools.itSsizeArg (.int (r : Nat) t)) Q E s := by
  unfold Builtin.Itertools.itSsizeArg
  show wpAny _ _ (asIndex (.int (r : Nat) t) >>= _) _ _ s
  refine wpAny_bind (wpAny_of_eq (a := (r : Int)) rfl ?_)
  have hn : ¬ ((decide ((r : Int) < -(2 ^ 63 : Int)) || decide ((r : Int) ≥ (2 ^ 63 : Int))) = true) := by
    rw [decide_eq_false (by omega), decide_eq_false (by omega)]
    decide
  show wpAny _ _ (if (decide ((r : Int) < -(2 ^ 63 : Int)) || decide ((r : Int) ≥ (2 ^ 63 : Int))) = true then _ else _) _ _ s
  rw [if_neg hn]
  exact wpAny_pure h
end
theorem meets_cmb_new (l : Addr) (o : Obj) (items : Array Value) (n : Nat) (r : Nat) (t : Tok) (hc : o.cls = .type "tuple") (hd : o.data = .seq items n) (small : items.size ≤ 1000) (hr : r ≤ items.size) :
    Meets (Builtin.«itertools.combinations.__new__» ⟨[.type "itertools.combinations", .ref l, .int (r : Nat) t], []⟩)
      (fun _ R s => s.heap.get? l = some o ∧ ∀ h' : Heap, (∀ b o', s.heap.get? b = some o' → h'.get? b = some o') →
        R (.ok (.ret (.ref (h'.push { cls := .type "tuple", data := .seq items }).objs.size))) { s with heap := (h'.push { cls := .type "tuple", data := .seq items }).push { cls := .type "itertools.combinations", data := .fields (([.ref h'.objs.size, rawInt 0, .none] ++ (List.range r).map fun i : Nat => rawInt i)).toArray } }) :=
  .of_wp fun prog w A R s h => by
    obtain ⟨ht, h⟩ := h
    have hsz : items.size ≤ sizeLine := by rw [sizeLine_eq]; omega
    refine wpAny_bind ?_
    refine wpAny_bind (cmb_class ?_)
    show wpAny _ _ (Builtin.Itertools.itBindNamed "combinations" ["iterable", "r"] 2 2 [Value.ref l, Value.int (r : Nat) t] [] >>= _) _ _ _
    refine wpAny_bind (cmb_bind ?_)
    show wpAny _ _ (Builtin.Itertools.itSsizeArg (Value.int (r : Nat) t) >>= _) _ _ _
    refine wpAny_bind (cmb_size (by omega) ?_)
    refine wpAny_bind (wpAny_collect_seq (hsz := hsz) l (.inr rfl) ht hc hd fun h' kept => ?_)
    have n1 : ¬ ((r : Int) < 0) := by omega
    have n2 : ¬ (Builtin.Itertools.itTooMany r = true) := by
      unfold Builtin.Itertools.itTooMany
      rw [decide_eq_true_eq]
      omega
    show wpAny _ _ (if (r : Int) < 0 then _ else _) _ _ _
    rw [if_neg n1]
    show wpAny _ _ (if Builtin.Itertools.itTooMany r = true then _ else _) _ _ _
    rw [if_neg n2]
    refine wpAny_bind (wpAny_newTuple (hsz := by simpa using hsz) ?_)
    refine wpAny_pure ?_
    have e1 : (if (r : Int).toNat > items.toList.length then (2 : Int) else 0) = 0 := by rw [if_neg]; simp; omega
    show wpAny _ _ (Builtin.Itertools.itNewRecord (.type "itertools.combinations") ([Value.ref h'.objs.size, rawInt (if (r : Int).toNat > items.toList.length then 2 else 0), .none] ++ (List.range (r : Int).toNat).map fun i : Nat => rawInt i) >>= _) _ _ _
    rw [e1]
    refine wpAny_bind ?_
    unfold Builtin.Itertools.itNewRecord
    show wpAny _ _ (if (!typeHasDict (.type "itertools.combinations")) = true then _ else _) _ _ _
    rw [nod_cmb]
    show wpAny _ _ (newObj (.type "itertools.combinations") (.fields (([Value.ref h'.objs.size, rawInt 0, .none] ++ (List.range r).map fun i : Nat => rawInt i)).toArray)) _ _ _
    refine wpAny_newObj_type (hd := ?hsize) ?_
    case hsize =>
      show (([Value.ref h'.objs.size, rawInt 0, Value.none] ++ (List.range r).map fun i : Nat => rawInt i)).toArray.size ≤ _
      rw [List.size_toArray, List.length_append, List.length_map, List.length_range]
      have := sizeLine_eq
      show 3 + r ≤ _
      omega
    refine wpAny_pure ⟨_, rfl, ?_⟩
    have := h h' kept
    simpa using this
theorem call_cmb {prog : Program} {w : World} {A : Around} {E : Value → Shared → Prop} {s : Shared} {l : Addr} {items : Array Value} {r : Nat} {t : Tok} {Q : Value → Shared → Prop} (tup : s.heap.IsTuple l items) (small : items.size ≤ 1000) (hr : r ≤ items.size)
    (h : ∀ (h0 h' : Heap) (it pool : Addr), it ≠ pool → CmbAt h' it pool 0 .none (List.range r) → h'.IsTuple pool items → h0.objs.size ≤ it → h0.objs.size ≤ pool → (∀ b o, s.heap.get? b = some o → h0.get? b = some o) → (∀ b o, h0.get? b = some o → h'.get? b = some o) → Q (.ref it) { s with heap := h' }) :
    wpAny (model prog w) A (call (.type "itertools.combinations") [.ref l, .int (r : Nat) t]) Q E s := by
  obtain ⟨o, ho, hc, n, hd⟩ := tup
  refine callType_new called_cmb (by decide +kernel) (tcall_cmb _ _) (ncall_cmb _ _) (fun obj => F.args_object_init_3 obj _ _) ent_cmb_new (meets_cmb_new l o items n r t hc hd small hr) ⟨ho, fun h' kept => ?_⟩
  show _ ∧ _
  refine ⟨⟨_, Heap.get?_push_size _ rfl, rfl⟩, h h' _ _ h'.objs.size ?_ ⟨_, Heap.get?_push_size _ rfl, by simp [rawInt]⟩ ⟨_, Heap.get?_push_of_some _ (Heap.get?_push_size _ rfl), rfl, _, rfl⟩ ?_ (Nat.le_refl _) kept fun b o e => Heap.get?_push_of_some _ (Heap.get?_push_of_some _ e)⟩
  · rw [Heap.size_push]
    exact Nat.succ_ne_self _
  · rw [Heap.size_push]
    exact Nat.le_succ _
def chainOk (n r : Nat) : Bool := decide ((combos r (List.range n))[0]? = some (List.range r)) && (List.range (combos r (List.range n)).length).all fun i => decide (nextC n ((combos r (List.range n)).getD i []) = (combos r (List.range n))[i + 1]?)
theorem chain_all : ∀ n < 8, ∀ r < 8, 1 ≤ r → r ≤ n → chainOk n r = true := by decide +kernel
theorem chain_0 {n r : Nat} (h7 : n ≤ 7) (h1 : 1 ≤ r) (hr : r ≤ n) : (combos r (List.range n))[0]? = some (List.range r) := by
  have h := chain_all n (by omega) r (by omega) h1 hr
  unfold chainOk at h
  rw [Bool.and_eq_true] at h
  exact of_decide_eq_true h.1
theorem chain_s {n r i : Nat} {ix : List Nat} (h7 : n ≤ 7) (h1 : 1 ≤ r) (hr : r ≤ n) (e : (combos r (List.range n))[i]? = some ix) : nextC n ix = (combos r (List.range n))[i + 1]? := by
  have h := chain_all n (by omega) r (by omega) h1 hr
  unfold chainOk at h
  rw [Bool.and_eq_true] at h
  obtain ⟨lt, q⟩ := List.getElem?_eq_some_iff.mp e
  have z := of_decide_eq_true (List.all_eq_true.mp h.2 i (List.mem_range.mpr lt))
  rw [List.getD_eq_getElem?_getD, e] at z
  exact z
theorem ns_range (ns : List Int) : ns = (List.range ns.length).map fun j => ns.getD j 0 := by
  refine List.ext_getElem (by simp) fun i h1 h2 => ?_
  rw [List.getElem_map, List.getElem_range, List.getD_eq_getElem?_getD, List.getElem?_eq_getElem h1]
  rfl
theorem combos_at (r : Nat) (ns : List Int) : combos r ns = (combos r (List.range ns.length)).map (List.map fun j => ns.getD j 0) := by
  have e := combos_map (fun j => ns.getD j 0) r (List.range ns.length)
  rw [← ns_range] at e
  exact e
theorem vals_pick {ns : List Int} {its : List Value} (h : Vals (ns.map V.int) its) : ∀ {jx : List Nat}, (∀ j ∈ jx, j < ns.length) → Vals ((jx.map fun j => ns.getD j 0).map V.int) (jx.map fun i => its.getD i .none)
  | [], _ => .nil
  | j :: r, hj => by
    refine .cons ?_ (vals_pick h fun x hx => hj x (List.mem_cons_of_mem _ hx))
    have lt := hj j (List.mem_cons_self ..)
    obtain ⟨u, hu, ru⟩ := h.get (i := j) (x := .int ns[j]) (by rw [List.getElem?_map, List.getElem?_eq_getElem lt]; rfl)
    have e1 : ns.getD j 0 = ns[j] := by rw [List.getD_eq_getElem?_getD, List.getElem?_eq_getElem lt]; rfl
    have e2 : its.getD j .none = u := by rw [List.getD_eq_getElem?_getD, hu]; rfl
    show RelV (V.int (ns.getD j 0)) (its.getD j .none)
    rw [e1, e2]
    exact ru
section
variable {P : Program} {w : World} {K : PySem.W.Frag}
def Itc (ds : List (List Int)) : It :=
  ⟨fun i _ => i < ds.length, fun i H v H' => ∃ p d, ds[i]? = some d ∧ v = .ref p ∧ H p = none ∧ H' = upd H p (.tup (d.map V.int)), fun i _ => ds.length ≤ i⟩
theorem pyNext_cmb {A : Around} {E : Value → Shared → Prop} {s : Shared} {it pool : Addr} {st : Int} {last : Value} {ix : List Nat} {Q : Option Value → Shared → Prop} (hit : CmbAt s.heap it pool st last ix)
    (h : wpAny (model P w) A.in1 (Builtin.«itertools.combinations.__next__» ⟨[.ref it], []⟩) (fun fin s' => ∃ v, fin = .done (.ret v) ∧ Q (some v) s') (fun e s' => (∃ b o, e = .ref b ∧ s'.heap.get? b = some o ∧ o.cls = .type "StopIteration") ∧ Q none s') s) : wpAny (model P w) A (pyNext (.ref it)) Q E s := by
  obtain ⟨fs, hfs, _⟩ := id hit
  have hT : s.TypeIs (.ref it) "itertools.combinations" := ⟨_, hfs, rfl⟩
  unfold pyNext
  refine wpAny_bind (wpAny_attempt (wpAny_callSpecial?_slot (name := Str.ofString "__next__") hT next_cmb (wpAny_call_entry next_cmb hT ent_cmb_next ?_ (arg_cmb_next _))))
  refine wpAny_mono h (fun fin s' z => ?_) (fun e s' z => ?_)
  · obtain ⟨v, rfl, q⟩ := z
    exact ⟨v, rfl, wpAny_pure q⟩
  · obtain ⟨⟨b, o, rfl, ho, hc⟩, q⟩ := z
    refine wpAny_bind (wpAny_isInstance (T := "StopIteration") (b := true) ⟨o, ho, hc⟩ isSubtype_stop ?_)
    exact wpAny_pure q
theorem turn_cmb {tg : Expr} {it pool : Addr} {r : Nat} {ns : List Int} {its : Array Value} (ne : it ≠ pool) (h7 : ns.length ≤ 7) (h1 : 1 ≤ r) (hr : r ≤ ns.length) (rv : Vals (ns.map V.int) its.toList) (hs : its.size = ns.length) :
    Turn P w K tg (Itc (combos r ns)) [it, pool] it (fun i h => ∃ (st : Int) (last : Value) (ix : List Nat), CmbAt h it pool st last ix ∧ h.IsTuple pool its ∧ (i = 0 ∧ st = 0 ∧ ix = List.range r ∨ ∃ j, i = j + 1 ∧ st = 1 ∧ (combos r (List.range ns.length))[j]? = some ix)) where
  mem := List.mem_cons_self ..
  obj := fun i h stands b hb => by
    obtain ⟨st, last, ix, ⟨fs, hfs, _⟩, ⟨o, ho, _, n, hd⟩, _⟩ := stands
    rcases List.mem_cons.mp hb with e | hb
    · rw [e]
      exact ⟨_, hfs, fun v z => nomatch z⟩
    · rw [List.mem_singleton.mp hb]
      exact ⟨o, ho, fun v z => by rw [hd] at z; cases z⟩
  keep := fun i h h' stands k => by
    obtain ⟨st, last, ix, ⟨fs, hfs, lst⟩, ⟨o, ho, c, n, hd⟩, q⟩ := stands
    exact ⟨st, last, ix, ⟨fs, k it (List.mem_cons_self ..) _ hfs, lst⟩, ⟨o, k pool (List.mem_cons_of_mem _ (List.mem_cons_self ..)) _ ho, c, n, hd⟩, q⟩
  item := by
    intro X eP ew eK calm i pins s σ H E I free stands less
    subst eP ew eK
    obtain ⟨st, last, ix, hit, tup, which⟩ := stands
    have lt : it < s.heap.objs.size := by obtain ⟨_, e, _⟩ := hit; exact Heap.lt_size e
    have ltp : pool < s.heap.objs.size := by obtain ⟨_, e, _⟩ := tup; exact Heap.lt_size e
    have all := combos_at r ns
    have fin : ∀ (jx : List Nat), (combos r (List.range ns.length))[i]? = some jx → ∀ h' : Heap, CmbAt h' it pool 1 (.ref s.heap.objs.size) jx → h'.get? s.heap.objs.size = some { cls := .type "tuple", data := .seq (jx.map fun i => its.toList.getD i .none).toArray } → (∀ b o, b ≠ it → s.heap.get? b = some o → h'.get? b = some o) →
        ∃ u, some (Value.ref s.heap.objs.size) = some u ∧ wpAny (model X.prog X.w) X.A (letOwnedTupleGo tg (.ref it) u) (fun _ s2 => ∃ x H', L2.Inv X pins σ H' s2 ∧ RelV x u ∧ (Itc (combos r ns)).yld i H x H' ∧ (∃ (st : Int) (last : Value) (ix : List Nat), CmbAt s2.heap it pool st last ix ∧ s2.heap.IsTuple pool its ∧ (i + 1 = 0 ∧ st = 0 ∧ ix = List.range r ∨ ∃ j, i + 1 = j + 1 ∧ st = 1 ∧ (combos r (List.range ns.length))[j]? = some ix)) ∧ ∀ b ∈ [it, pool], H' b = none) E { s with heap := h' } := by
      intro jx hj h' c t k
      have memj := List.mem_of_getElem? hj
      have small : jx.length ≤ 7 := by have := (mem_combos.mp memj).2; omega
      have each : ∀ j ∈ jx, j < ns.length := fun j hjm => List.mem_range.mp ((mem_combos.mp memj).1.subset hjm)
      obtain ⟨fs, hfs, lst⟩ := id c
      refine ⟨_, rfl, go_of (s := { s with heap := h' }) hfs rfl rfl (by decide) ?_⟩
      have new : ObjOk X.prog X.w (upd H s.heap.objs.size (.tup ((jx.map fun j => ns.getD j 0).map V.int))) h' s.heap.objs.size (.tup ((jx.map fun j => ns.getD j 0).map V.int)) := by
        refine ⟨?_, _, vals_pick rv each, ⟨_, t, rfl, _, rfl⟩⟩
        show ((jx.map fun j => ns.getD j 0).map V.int).length ≤ sizeLine
        rw [List.length_map, List.length_map, sizeLine_eq]
        omega
      have I1 : L2.Inv X pins σ (upd H s.heap.objs.size (.tup ((jx.map fun j => ns.getD j 0).map V.int))) { s with heap := h' } :=
        I.turnedNew (t' := s.toks) (ch := [it, pool]) (fun b o nb e => k b o (fun z => nb (by rw [z]; exact List.mem_cons_self ..)) e) free (Nat.le_refl _) new
      refine ⟨.ref s.heap.objs.size, _, I1, rfl, ⟨_, _, ?_, rfl, I.hok.fresh (Nat.le_refl _), rfl⟩, ⟨1, _, jx, c, ?_, .inr ⟨i, rfl, rfl, hj⟩⟩, fun b hb => ?_⟩
      · rw [all, List.getElem?_map, hj]; rfl
      · obtain ⟨o, ho, c2, d⟩ := tup
        exact ⟨o, k _ _ (Ne.symm ne) ho, c2, d⟩
      · rcases List.mem_cons.mp hb with e | hb
        · rw [e, upd_ne (Nat.ne_of_lt lt)]
          exact (free it (List.mem_cons_self ..)).1
        · rw [List.mem_singleton.mp hb, upd_ne (Nat.ne_of_lt ltp)]
          exact (free pool (List.mem_cons_of_mem _ (List.mem_cons_self ..))).1
    refine pyNext_cmb hit ?_
    have lessN : i < (combos r (List.range ns.length)).length := by
      have z : i < (combos r ns).length := less
      rw [all, List.length_map] at z
      exact z
    rcases which with ⟨rfl, rfl, rfl⟩ | ⟨j, rfl, rfl, hj⟩
    · exact cmb_first ne (by rw [List.length_range]; omega) hit tup fun h' c t k => fin _ (chain_0 h7 h1 hr) h' c t k
    · have nx := chain_s h7 h1 hr hj
      rw [List.getElem?_eq_getElem lessN] at nx
      have memj := List.getElem_mem lessN
      have small := (mem_combos.mp memj).2
      exact cmb_more ne hit tup (by rw [hs]; exact nx) (by omega) fun h' c t k => fin _ (List.getElem?_eq_getElem lessN) h' c t k
  done := by
    intro X eP ew eK calm i pins s σ H E I free stands most
    subst eP ew eK
    obtain ⟨st, last, ix, hit, tup, which⟩ := stands
    have all := combos_at r ns
    have mostN : (combos r (List.range ns.length)).length ≤ i := by
      have z : (combos r ns).length ≤ i := most
      rw [all, List.length_map] at z
      exact z
    obtain ⟨f0, f1, f2, f3, f4, f5⟩ := free it (List.mem_cons_self ..)
    refine pyNext_cmb hit ?_
    rcases which with ⟨rfl, rfl, rfl⟩ | ⟨j, rfl, rfl, hj⟩
    · have := chain_0 h7 h1 hr
      rw [List.getElem?_eq_none mostN] at this
      cases this
    · have nx := chain_s h7 h1 hr hj
      rw [List.getElem?_eq_none mostN] at nx
      exact cmb_end (I.ok.hd calm) ne hit tup (by rw [hs]; exact nx) fun h' e k he => ⟨⟨e, he.choose, rfl, he.choose_spec.1, he.choose_spec.2⟩, rfl, I.turned (t' := s.toks) k f0 f1 f3 f4 f5⟩
  self := fun A i s Q E stands h => by
    obtain ⟨st, last, ix, ⟨fs, hfs, _⟩, _⟩ := stands
    have hT : s.TypeIs (.ref it) "itertools.combinations" := ⟨_, hfs, rfl⟩
    refine wpAny_pyIter_slot hT iter_cmb (wpAny_call_entry iter_cmb hT ent_cmb_iter ?_ (arg_cmb_iter _))
    show wpAny _ _ (ret (.ref it)) _ _ s
    exact wpAny_pure ⟨_, rfl, "itertools.combinations", _, hT, next_cmb.lookup, h⟩
end
section
variable {X : Cx} {tg : Expr}
def iCmb (K : PySem.W.Frag) (ta : TA) : TI := fun σ H R => ta σ H fun vs H1 => ∃ (a : Addr) (ns : List Int) (r : Nat), vs = [.ref a, .int (r : Nat)] ∧ SqT K H1 a (ns.map V.int) ∧ ns.length ≤ 7 ∧ 1 ≤ r ∧ r ≤ ns.length ∧ R (Itc (combos r ns)) H1
theorem pi_cmb {a b : Expr} {ta : TA} {p pos : Pos} (hg : Gl X "combinations") (hm : X.mg "combinations" = some (.type "itertools.combinations")) (ha : PA X [a, b] ta) (hs : starEach [a, b] X.env = [(false, eval a X.env), (false, eval b X.env)] := by rfl) (hs2 : starEach [b] X.env = [(false, eval b X.env)] := by rfl) :
    PI X tg (.Call (.Name "combinations" p) [a, b] [] pos) (iCmb X.K ta) := by
  refine ⟨fun pins s σ H R I h => ?_⟩
  refine Call_ (ld_glob I hg hm (PyProof.Rows.callWith_type1 (thn (ha.run pos pins s σ H _ I h) fun us s1 ⟨vs, H1, I1, r1, q1⟩ => ?_) (by rw [hs, hs2]) (by rw [hs2]; rfl)))
  obtain ⟨l, ns, r, e, sq, h7, h1, hr, q⟩ := q1
  subst e
  cases r1 with
  | cons ra rr =>
    cases rr with
    | cons rb rr =>
      cases rr
      cases ra
      obtain ⟨t, rfl⟩ := rb
      obtain ⟨its, rv, pl, _⟩ := I1.tuple sq
      have size : its.toArray.size = ns.length := by rw [List.size_toArray, ← rv.length]; exact List.length_map _
      refine call_cmb pl (by omega) (by omega) fun h0 h' it pool ne hit tup l1 l2 kept0 kept => ?_
      have I0 : L2.Inv X pins σ H1 { s1 with heap := h0 } := I1.kept kept0
      have I2 : L2.Inv X pins σ H1 { s1 with heap := h' } := I0.kept kept
      refine wpAny_pyIter_slot (T := "itertools.combinations") ?_ iter_cmb (wpAny_call_entry (T := "itertools.combinations") iter_cmb ?_ ent_cmb_iter ?_ (arg_cmb_iter _))
      · obtain ⟨fs, hfs, _⟩ := hit
        exact ⟨_, hfs, rfl⟩
      · obtain ⟨fs, hfs, _⟩ := hit
        exact ⟨_, hfs, rfl⟩
      show wpAny _ _ (ret (.ref it)) _ _ _
      refine wpAny_pure ⟨_, rfl, "itertools.combinations", _, (by obtain ⟨fs, hfs, _⟩ := hit; exact ⟨_, hfs, rfl⟩), next_cmb.lookup, ?_⟩
      refine ⟨it, [it, pool], _, Itc (combos r ns), H1, rfl, I2, turn_cmb ne h7 h1 hr (by simpa using rv) size, ⟨0, .none, List.range r, hit, tup, .inl ⟨rfl, rfl, rfl⟩⟩, fun b hb => ?_, q⟩
      rcases List.mem_cons.mp hb with e | hb
      · rw [e]
        exact I0.fpOk l1 (I0.hok.fresh l1)
      · rw [List.mem_singleton.mp hb]
        exact I0.fpOk l2 (I0.hok.fresh l2)
end
theorem walk_cmb {ds : List (List Int)} : Walk (Itc ds) ds.length (fun _ => True) (fun i H v H' => ∃ p d, ds[i]? = some d ∧ v = .ref p ∧ H p = none ∧ H' = upd H p (.tup (d.map V.int))) :=
  ⟨fun _ _ hi _ => hi, fun _ _ => Nat.le_refl _, fun _ _ _ _ _ _ y => y⟩

theorem room9 {k : Nat} {A : Around} (h : Room k A) : A.units + 9 < cLine := by have := h.un; omega
theorem room10 {k : Nat} {A : Around} (h : Room k A) : A.units + 10 < cLine := by have := h.un; omega
theorem room65 {k : Nat} {A : Around} (h : Room k A) : A.units + 65 < cLine := by have := h.un; omega
/-! ### dicts whose keys are tuples within tuples -/
mutual
/-- a value that is such a key -/
inductive KeyV (H : Hp) : NestedKey → V → Prop
  | non : KeyV H .none .non
  | int (i : Int) : KeyV H (.num i) (.int i)
  | str (x : Str) : KeyV H (.text x) (.str x)
  | tup {a : Addr} {ks : List NestedKey} {xs : List V} (e : H a = some (.tup xs)) (h : KeysV H ks xs) : KeyV H (.tup ks) (.ref a)
inductive KeysV (H : Hp) : List NestedKey → List V → Prop
  | nil : KeysV H [] []
  | cons {k : NestedKey} {x : V} {ks : List NestedKey} {xs : List V} (h : KeyV H k x) (t : KeysV H ks xs) : KeysV H (k :: ks) (x :: xs)
end
mutual
theorem KeyV.mono {H H' : Hp} (e : ∀ a xs, H a = some (.tup xs) → H' a = some (.tup xs)) : ∀ {k : NestedKey} {x : V}, KeyV H k x → KeyV H' k x
  | _, _, .non => .non
  | _, _, .int i => .int i
  | _, _, .str x => .str x
  | _, _, .tup h t => .tup (e _ _ h) (KeysV.mono e t)
theorem KeysV.mono {H H' : Hp} (e : ∀ a xs, H a = some (.tup xs) → H' a = some (.tup xs)) : ∀ {ks : List NestedKey} {xs : List V}, KeysV H ks xs → KeysV H' ks xs
  | _, _, .nil => .nil
  | _, _, .cons h t => .cons (KeyV.mono e h) (KeysV.mono e t)
end
theorem tup_stands {P : Program} {w : World} {H : Hp} {h : Heap} {a : Addr} {xs : List V} (ok : HOk P w H h) (e : H a = some (.tup xs)) : ∃ (o : Obj) (its : List Value) (n : Nat), h.get? a = some o ∧ o.cls = .type "tuple" ∧ o.data = .seq its.toArray n ∧ Vals xs its := by
  obtain ⟨_, its, rv, o, g, c, n, d⟩ := (show ObjOk P w H h a (.tup xs) from ok a _ e)
  exact ⟨o, its, n, g, c, d, rv⟩
mutual
theorem KeyV.is {P : Program} {w : World} {H : Hp} {h : Heap} (ok : HOk P w H h) : ∀ {k : NestedKey} {x : V} {v : Value}, KeyV H k x → RelV x v → NestedIs h k v
  | _, _, _, .non, r => by cases r; exact .none
  | _, _, _, .int i, r => by obtain ⟨t, rfl⟩ := r; exact .int i t
  | _, _, _, .str x, r => by obtain ⟨t, rfl⟩ := r; exact .text x t
  | _, _, _, .tup e t, r => by
    cases r
    obtain ⟨o, its, n, g, c, d, rv⟩ := tup_stands ok e
    exact .tup g c d (KeysV.is ok t rv)
theorem KeysV.is {P : Program} {w : World} {H : Hp} {h : Heap} (ok : HOk P w H h) : ∀ {ks : List NestedKey} {xs : List V} {vs : List Value}, KeysV H ks xs → Vals xs vs → NestedAll h ks vs
  | _, _, _, .nil, r => by cases r; exact .nil
  | _, _, _, .cons a b, r => by
    cases r with
    | cons r1 r2 => exact .cons (KeyV.is ok a r1) (KeysV.is ok b r2)
end
/-- an entry: the key, where its tuple stands, the value -/
abbrev NEnt := NestedKey × Addr × V
def EntR (p : NEnt) (q : NestedKey × Addr × Value) : Prop := p.1 = q.1 ∧ p.2.1 = q.2.1 ∧ RelV p.2.2 q.2.2
/-- the dict at d: what of it its own object tells -/
def DN (P : Program) (w : World) (d : Addr) (xs : List NEnt) : HO := .ext fun h => xs.length ≤ sizeLine ∧ (d == sysModules) = false ∧ ∃ vs, Paired EntR xs vs ∧
  ∃ o es ep, h.get? d = some o ∧ o.ExactDict ∧ o.data = .dict es ep ∧ es.toList = vs.map (entryOfKey (nestedKind P w))
/-- its keys stand -/
def NOk (H : Hp) (xs : List NEnt) : Prop := (∀ p ∈ xs, KeyV H p.1 (.ref p.2.1) ∧ p.1.depth ≤ 8) ∧ (xs.map (·.1)).Nodup
theorem NOk.mono {H H' : Hp} {xs : List NEnt} (e : ∀ a xs, H a = some (.tup xs) → H' a = some (.tup xs)) (h : NOk H xs) : NOk H' xs := ⟨fun p hp => ⟨(h.1 p hp).1.mono e, (h.1 p hp).2⟩, h.2⟩
theorem ent_keys : ∀ {xs : List NEnt} {vs : List (NestedKey × Addr × Value)}, Paired EntR xs vs → vs.map (·.1) = xs.map (·.1)
  | [], _, h => by cases h; rfl
  | x :: xs, _, h => by
    cases h with
    | cons r t => rw [List.map_cons, List.map_cons, ent_keys t, r.1]
theorem ent_mem : ∀ {xs : List NEnt} {vs : List (NestedKey × Addr × Value)}, Paired EntR xs vs → ∀ q ∈ vs, ∃ p ∈ xs, EntR p q
  | [], _, h, q, m => by cases h; cases m
  | x :: xs, _, h, q, m => by
    cases h with
    | cons r t =>
      rcases List.mem_cons.mp m with e | m
      · subst e
        exact ⟨x, List.mem_cons_self .., r⟩
      · obtain ⟨p, hp, e⟩ := ent_mem t q m
        exact ⟨p, List.mem_cons_of_mem _ hp, e⟩
theorem dn_get {P : Program} {w : World} {H : Hp} {h : Heap} {d : Addr} {xs : List NEnt} (ok : HOk P w H h) (e : Rd H d (DN P w d xs)) (n : NOk H xs) : xs.length ≤ sizeLine ∧ (d == sysModules) = false ∧ ∃ vs, Paired EntR xs vs ∧ h.DictOfH (nestedKind P w) d vs := by
  obtain ⟨hl, hd, vs, pr, o, es, ep, g, c, dt, el⟩ := (e.ok ok).1
  refine ⟨hl, hd, vs, pr, o, es, ep, g, c, dt, el, fun q hq => ?_, by rw [ent_keys pr]; exact n.2⟩
  obtain ⟨p, hp, e1, e2, _⟩ := ent_mem pr q hq
  obtain ⟨k1, k2⟩ := n.1 p hp
  rw [← e1, ← e2]
  exact ⟨k1.is ok rfl, k2⟩
theorem dn_new {P : Program} {w : World} {H : Hp} {h : Heap} {d : Addr} {xs : List NEnt} {vs : List (NestedKey × Addr × Value)} (hl : xs.length ≤ sizeLine) (hd : (d == sysModules) = false) (pr : Paired EntR xs vs) (dh : h.DictOfH (nestedKind P w) d vs) : ObjOk P w H h d (DN P w d xs) := by
  obtain ⟨o, es, ep, g, c, dt, el, _, _⟩ := dh
  refine ⟨⟨hl, hd, vs, pr, o, es, ep, g, c, dt, el⟩, ⟨o, g⟩, ?_⟩
  rintro h1 h2 ⟨hl, hd, vs, pr, o, es, ep, g, c, dt, el⟩ k
  exact ⟨hl, hd, vs, pr, o, es, ep, k _ g, c, dt, el⟩
/-- the value of a key -/
def atN (xs : List NEnt) (k : NestedKey) : Option V := match xs with
  | [] => none
  | x :: r => if x.1 = k then some x.2.2 else atN r k
theorem atKey_pos {y : NestedKey × Addr × Value} {ys : List (NestedKey × Addr × Value)} {k : NestedKey} (h : y.1 = k) : atKey (y :: ys) k = some y.2 := by
  unfold atKey
  simp [h]
theorem atKey_neg {y : NestedKey × Addr × Value} {ys : List (NestedKey × Addr × Value)} {k : NestedKey} (h : ¬ y.1 = k) : atKey (y :: ys) k = atKey ys k := by
  unfold atKey
  simp [h]
theorem atN_rel (k : NestedKey) : ∀ {xs : List NEnt} {vs : List (NestedKey × Addr × Value)}, Paired EntR xs vs → (atN xs k = none ∧ atKey vs k = none) ∨ ∃ v p, atN xs k = some v ∧ atKey vs k = some p ∧ RelV v p.2
  | [], _, h => by cases h; exact .inl ⟨rfl, rfl⟩
  | x :: xs, _, h => by
    cases h with
    | @cons _ y _ ys r t =>
      by_cases c : x.1 = k
      · refine .inr ⟨x.2.2, y.2, ?_, atKey_pos (r.1 ▸ c), r.2.2⟩
        unfold atN
        rw [if_pos c]
      · have e1 : atN (x :: xs) k = atN xs k := by
          show (if x.1 = k then some x.2.2 else atN xs k) = _
          rw [if_neg c]
        rw [e1, atKey_neg (r.1 ▸ c)]
        exact atN_rel k t
theorem atN_isSome (k : NestedKey) {xs : List NEnt} {vs : List (NestedKey × Addr × Value)} (h : Paired EntR xs vs) : (atKey vs k).isSome = (atN xs k).isSome := by
  rcases atN_rel k h with ⟨a, b⟩ | ⟨v, p, a, b, _⟩ <;> rw [a, b] <;> rfl
section
variable {X : Cx}
/-- a question about the dict: its own address, the key's -/
def AskN (P : Program) (w : World) (a d : Addr) (k : NestedKey) (xs : List NEnt) (H : Hp) : Prop := Rd H d (DN P w d xs) ∧ NOk H xs ∧ KeyV H k (.ref a) ∧ k.depth ≤ 8
theorem AskN.kind {pins : List (Addr × Obj)} {σ : L2.St} {H : Hp} {s : Shared} {a d : Addr} {k : NestedKey} {xs : List NEnt} (I : L2.Inv X pins σ H s) (h : AskN X.prog X.w a d k xs H) : (nestedKind X.prog X.w).is s.heap k a := ⟨h.2.2.1.is I.hok rfl, h.2.2.2⟩
def rInN (P : Program) (w : World) (neg : Bool) : R2 := fun x y H Q => ∃ (a d : Addr) (k : NestedKey) (xs : List NEnt), x = .ref a ∧ y = .ref d ∧ AskN P w a d k xs H ∧ Q (.bl (if neg then !(atN xs k).isSome else (atN xs k).isSome)) H
theorem op_inN (hu : X.A.units + 9 < cLine) : OpR X (compareOp .In) (rInN X.prog X.w false) := by
  intro ps0 st0 σ0 H0 xr yr vr ur W0 Inv0 relx rely asked
  obtain ⟨a, d, k, xs, rfl, rfl, ask, wish⟩ := asked
  cases relx
  cases rely
  obtain ⟨hl, hd, vs, pr, dh⟩ := dn_get Inv0.hok ask.1 ask.2.1
  refine wpAny_in_heap (knd := nestedKind X.prog X.w) (by show X.A.units + 1 + 8 < cLine; omega) (ask.kind Inv0) hd dh ?_
  exact ⟨.bl (atN xs k).isSome, H0, Inv0.tok _, (by rw [atN_isSome k pr]; rfl), wish⟩
theorem op_notInN (hu : X.A.units + 9 < cLine) : OpR X (compareOp .NotIn) (rInN X.prog X.w true) := by
  intro ps0 st0 σ0 H0 xr yr vr ur W0 Inv0 relx rely asked
  obtain ⟨a, d, k, xs, rfl, rfl, ask, wish⟩ := asked
  cases relx
  cases rely
  obtain ⟨hl, hd, vs, pr, dh⟩ := dn_get Inv0.hok ask.1 ask.2.1
  refine notIn_keyed (knd := nestedKind X.prog X.w) (kvs := pairsH vs) (by show X.A.units + 1 + 8 < cLine; omega) (ask.kind Inv0) hd ⟨vs, dh, rfl⟩ ?_
  exact ⟨.bl (!(atN xs k).isSome), H0, Inv0.tok _, (by rw [valueAt_pairsH, Option.isSome_map, atN_isSome k pr]; rfl), wish⟩
def rIxN (P : Program) (w : World) : R2 := fun x y H Q => ∃ (a d : Addr) (k : NestedKey) (xs : List NEnt) (v : V), x = .ref d ∧ y = .ref a ∧ AskN P w a d k xs H ∧ atN xs k = some v ∧ Q v H
theorem ix_nd (hu : X.A.units + 9 < cLine) : IxR X (rIxN X.prog X.w) := by
  intro value slice ps0 st0 σ0 H0 xr yr vr ur W0 Inv0 relx rely asked plain
  obtain ⟨a, d, k, xs, v, rfl, rfl, ask, isAt, wish⟩ := asked
  cases relx
  cases rely
  obtain ⟨hl, hd, vs, pr, dh⟩ := dn_get Inv0.hok ask.1 ask.2.1
  rcases atN_rel k pr with ⟨no, _⟩ | ⟨v2, p, e1, e2, rv⟩
  · rw [no] at isAt; cases isAt
  obtain rfl : v = v2 := Option.some.inj (isAt.symm.trans e1)
  exact tail_any dh.typeIs PySem.F.slot_dict_getitem.lookup (wpAny_getItem_heap (knd := nestedKind X.prog X.w) (by show X.A.units + 1 + 8 < cLine; omega) (ask.kind Inv0) dh e2 ⟨v, H0, Inv0.tok _, rv, wish⟩) plain
/-- the entries behind a store -/
def putN (xs : List NEnt) (k : NestedKey) (a : Addr) (v : V) : List NEnt := if (atN xs k).isSome then xs.map (fun x => if x.1 = k then (x.1, x.2.1, v) else x) else xs ++ [(k, a, v)]
theorem ent_map {k : NestedKey} {v : V} {u : Value} (r : RelV v u) : ∀ {xs : List NEnt} {vs : List (NestedKey × Addr × Value)}, Paired EntR xs vs → Paired EntR (xs.map (fun x => if x.1 = k then (x.1, x.2.1, v) else x)) (vs.map (putAt k u))
  | [], _, h => by cases h; exact .nil
  | x :: xs, _, h => by
    cases h with
    | @cons _ y _ ys r1 t =>
      refine .cons ?_ (ent_map r t)
      by_cases c : x.1 = k
      · show EntR (if x.1 = k then (x.1, x.2.1, v) else x) (if y.1 = k then (y.1, y.2.1, u) else y)
        rw [if_pos c, if_pos (r1.1 ▸ c)]
        exact ⟨r1.1, r1.2.1, r⟩
      · show EntR (if x.1 = k then (x.1, x.2.1, v) else x) (if y.1 = k then (y.1, y.2.1, u) else y)
        rw [if_neg c, if_neg (r1.1 ▸ c)]
        exact r1
theorem ent_snoc {x : NEnt} {y : NestedKey × Addr × Value} (r : EntR x y) : ∀ {xs : List NEnt} {vs : List (NestedKey × Addr × Value)}, Paired EntR xs vs → Paired EntR (xs ++ [x]) (vs ++ [y])
  | [], _, h => by cases h; exact .cons r .nil
  | _ :: _, _, h => by
    cases h with
    | cons r1 t => exact .cons r1 (ent_snoc r t)
theorem ent_put {k : NestedKey} {a : Addr} {v : V} {u : Value} {xs : List NEnt} {vs : List (NestedKey × Addr × Value)} (r : RelV v u) (h : Paired EntR xs vs) : Paired EntR (putN xs k a v) (storedH vs k a u) := by
  unfold putN storedH
  rw [atN_isSome k h]
  split
  · exact ent_map r h
  · exact ent_snoc ⟨rfl, rfl, r⟩ h
theorem putN_len (xs : List NEnt) (k : NestedKey) (a : Addr) (v : V) : (putN xs k a v).length ≤ xs.length + 1 := by
  unfold putN
  split
  · rw [List.length_map]; omega
  · rw [List.length_append]; exact Nat.le_refl _
def sDPutN (P : Program) (w : World) (td ty tv : TE) : TS := fun D σ H => tv σ H fun v H1 => td σ H1 fun x H2 => ty σ H2 fun y H3 => ∃ (a d : Addr) (k : NestedKey) (xs : List NEnt), x = .ref d ∧ y = .ref a ∧ AskN P w a d k xs H3 ∧ H3 d = some (DN P w d xs) ∧ xs.length < sizeLine ∧ D.nx σ (upd H3 d (DN P w d (putN xs k a v)))
theorem ps_dputN {o i value : Expr} {td ty tv : TE} {pos' pos : Pos} (hu : X.A.units + 9 < cLine) (ho : PE X o td) (hi : PE X i ty) (hv : PE X value tv) (hs : swapsWith value (some (.Subscript o i pos')) pos.line X.env = pure false) :
    PS X (.Assign [.Subscript o i pos'] value pos) (sDPutN X.prog X.w td ty tv) := by
  refine ⟨fun ps0 st0 σ0 H0 D0 Inv0 asked => ?_⟩
  have first := hv.run ps0 st0 σ0 H0 _ Inv0 asked
  refine wpAny_Assign_Subscript (thn first ?_) hs
  rintro r1 st1 ⟨v, H1, I1, rv, ask1⟩
  refine thn (ho.run ps0 st1 σ0 H1 _ I1 ask1) ?_
  rintro r2 st2 ⟨x, H2, I2, rx, ask2⟩
  refine thn (hi.run ps0 st2 σ0 H2 _ I2 ask2) ?_
  rintro r3 st3 ⟨y, H3, I3, ry, a, d, k, xs, rfl, rfl, ask, own, less, wish⟩
  cases rx
  cases ry
  obtain ⟨hl, hd, vs, pr, dh⟩ := dn_get I3.hok ask.1 ask.2.1
  refine wpAny_setItem_heap (knd := nestedKind X.prog X.w) (hsz := by rw [← Paired.length pr]; exact hl) (by show X.A.units + 1 + 8 < cLine; omega) (ask.kind I3) dh fun h' dh' same => ?_
  have stands : ∃ q, h'.get? d = some q := let ⟨q, _, _, hq, _⟩ := dh'; ⟨q, hq⟩
  exact ⟨σ0, upd H3 d (DN X.prog X.w d (putN xs k a v)), d_write I3 (by rw [own]; exact True.intro) same stands (dn_new (by have := putN_len xs k a v; omega) hd (ent_put rv pr) dh'), wish⟩
theorem dn_empty {P : Program} {w : World} {H : Hp} (h : Heap) (big : sysModules < h.objs.size) : ObjOk P w H (h.push { cls := .type "dict", data := .dict #[] }) h.objs.size (DN P w h.objs.size []) :=
  dn_new (vs := []) (Nat.zero_le _) (beq_eq_false_iff_ne.mpr (Ne.symm (Nat.ne_of_lt big))) .nil (Heap.DictOfH.new h)
/-- {}, to be such a dict -/
def tNewN (P : Program) (w : World) : TE := fun _ H Q => ∀ d, H d = none → Q (.ref d) (upd H d (DN P w d []))
theorem pe_newN {pos : Pos} : PE X (.Dict [] [] pos) (tNewN X.prog X.w) := ⟨fun ps0 st0 σ0 H0 W0 Inv0 asked =>
  wpAny_Dict_empty ⟨.ref st0.heap.objs.size, _, Inv0.laid (a := st0.heap.objs.size) (o := DN X.prog X.w st0.heap.objs.size []) (t' := st0.toks) (fun _ _ z => Heap.get?_push_of_some _ z) (Nat.le_refl _) (dn_empty st0.heap Inv0.big), rfl, asked _ (Inv0.hok.fresh (Nat.le_refl _))⟩⟩
/-- the dict's own object, of its entries nothing asked -/
theorem dn_obj {P : Program} {w : World} {H : Hp} {h : Heap} {d : Addr} {xs : List NEnt} (ok : HOk P w H h) (e : Rd H d (DN P w d xs)) : ∃ o, h.get? d = some o ∧ o.ExactDict := by
  obtain ⟨_, _, _, _, o, _, _, g, c, _⟩ := (e.ok ok).1
  exact ⟨o, g, c⟩
def rLenN (P : Program) (w : World) : List V → Hp → VK → Prop := fun vs H Q => ∃ (d : Addr) (xs : List NEnt), vs = [.ref d] ∧ Rd H d (DN P w d xs) ∧ NOk H xs ∧ Q (.int ((xs.length : Nat) : Int)) H
theorem call_lenN : CallR X (.builtin "len") (rLenN X.prog X.w) := by
  intro ps0 st0 σ0 H0 args us W0 Inv0 rel asked
  obtain ⟨d, xs, rfl, isD, keys, wish⟩ := asked
  obtain ⟨u, rfl, ru⟩ := vals1 rel
  obtain rfl : u = .ref d := ru
  obtain ⟨hl, hd, vs, pr, dh⟩ := dn_get Inv0.hok isD keys
  have same := Paired.length pr
  refine call_len_dictH hd dh (by rw [← same]; rw [sizeLine_eq] at hl; omega) ?_
  rw [← same]
  exact ⟨.int ((xs.length : Nat) : Int), H0, Inv0.tok _, ⟨_, rfl⟩, wish⟩
def rIsN (P : Program) (w : World) (K : PySem.W.Frag) : List V → Hp → VK → Prop := fun vs H Q => ∃ (d : Addr) (xs : List NEnt) (c : V) (u : Value) (b : Bool), vs = [.ref d, c] ∧ Rd H d (DN P w d xs) ∧ ClsV c u ∧ PySem.W.kitOne K (.type "dict") u = some b ∧ Q (.bl b) H
theorem call_isN : CallR X (.builtin "isinstance") (rIsN X.prog X.w X.K) := by
  intro ps0 st0 σ0 H0 args us W0 Inv0 rel asked
  obtain ⟨d, xs, c, u, b, rfl, isD, cv, e, wish⟩ := asked
  obtain ⟨u1, u2, rfl, r1, r2⟩ := vals2 rel
  obtain rfl : u1 = .ref d := r1
  obtain rfl := cv.eq r2
  obtain ⟨o, g, ex⟩ := dn_obj Inv0.hok isD
  exact PySem.W.kia_one PySem.W.kitx_dict Inv0.kIn ⟨o, g, ex.1⟩ e (fun z => nomatch z) fun tk => ⟨.bl b, H0, Inv0.tok tk, rfl, wish⟩
def tClearN (P : Program) (w : World) (to : TE) : TE := fun σ H Q => to σ H fun x H1 => ∃ (d : Addr) (xs : List NEnt), x = .ref d ∧ H1 d = some (DN P w d xs) ∧ NOk H1 xs ∧ Q .non (upd H1 d (DN P w d []))
theorem pe_clearN {o : Expr} {to : TE} {apos cpos : Pos} (ho : PE X o to) (hbase : attributeBase o "clear" X.env (eval o X.env) = eval o X.env := by rfl) (hline : (apos.endLine == cpos.line) = true := by rfl) : PE X (.Call (.Attribute o "clear" apos) [] [] cpos) (tClearN X.prog X.w to) := by
  refine ⟨fun ps0 st0 σ0 H0 W0 Inv0 asked => ?_⟩
  refine wpAny_Call_method0_late hbase hline (thn (ho.run ps0 st0 σ0 H0 _ Inv0 asked) ?_)
  rintro v1 st1 ⟨x, H1, I1, r1, d, xs, rfl, isD, keys, wish⟩
  cases r1
  obtain ⟨ob, g, ex⟩ := dn_obj I1.hok (.inl isD)
  obtain ⟨hl, hd, vs, pr, dh⟩ := dn_get I1.hok (.inl isD) keys
  refine ⟨"dict", "dict.clear", PySem.F.plainAttrs_dict, PySem.F.slot_dict_clear, PySem.F.type_dict_clear, ⟨ob, g, ex.1⟩, fun a e => ⟨ob, by cases e; exact g, ex.2.1⟩, Calls.callWith_builtin rfl (PySem.evalArgs_none ?_)⟩
  refine clear_keyed (knd := nestedKind X.prog X.w) (kvs := pairsH vs) ⟨vs, dh, rfl⟩ (fun h' dk same => ?_) (by rw [pairsH_length, ← Paired.length pr]; exact hl)
  obtain ⟨vs2, dh2, e2⟩ := dk
  obtain rfl : vs2 = [] := List.eq_nil_of_length_eq_zero (by rw [← pairsH_length, e2]; rfl)
  have stands : ∃ q, h'.get? d = some q := let ⟨q, _, _, hq, _⟩ := dh2; ⟨q, hq⟩
  exact ⟨.non, upd H1 d (DN X.prog X.w d []), d_write I1 (by rw [isD]; exact True.intro) same stands (dn_new (Nat.zero_le _) hd .nil dh2), rfl, wish⟩
/-! ### for k in d, d such a dict -/
theorem dn_frz {P : Program} {w : World} {H : Hp} {h : Heap} {d : Addr} {ob : Obj} {xs : List NEnt} (ok : HOk P w H h) (e : H d = some (.frz ob (DN P w d xs))) : (d == sysModules) = false ∧ h.get? d = some ob ∧ ob.ExactDict ∧ ∃ es ep, ob.data = .dict es ep ∧ es.size = xs.length ∧ ∀ (i : Nat) (x : NEnt), xs[i]? = some x → ∃ en, es[i]? = some en ∧ en.key = .ref x.2.1 := by
  obtain ⟨here, ⟨_, hd, vs, pr, o, es, ep, g, c, dt, el⟩, _⟩ := (show ObjOk P w H h d (.frz ob (DN P w d xs)) from ok d _ e)
  rw [here] at g
  cases g
  refine ⟨hd, here, c, es, ep, dt, (size_of_entries el).trans (Paired.length pr).symm, fun i x hx => ?_⟩
  obtain ⟨y, hy, r⟩ := paired_get pr hx
  have z := entry_at el i
  rw [hy] at z
  exact ⟨_, z, congrArg Value.ref r.2.1.symm⟩
def Itkn (P : Program) (w : World) (d : Addr) (ob : Obj) (xs : List NEnt) : It :=
  ⟨fun i H => H d = some (.frz ob (DN P w d xs)) ∧ i < xs.length, fun i H v H' => H' = H ∧ ∃ x, xs[i]? = some x ∧ v = .ref x.2.1, fun i H => H d = some (.frz ob (DN P w d xs)) ∧ xs.length ≤ i⟩
theorem turn_keysN {P : Program} {w : World} {K : PySem.W.Frag} {tg : Expr} {d : Addr} {ob : Obj} {es : Array DictEntry} {ep : Nat} {xs : List NEnt} (it : Addr) (hdata : ob.data = .dict es ep) : Turn P w K tg (Itkn P w d ob xs) [it] it (fun i h => h.IsKeyIter it d i xs.length ep) where
  mem := List.mem_cons_self ..
  obj := fun i h stands b hb => by
    obtain rfl : b = it := by simpa using hb
    obtain ⟨oi, g, _, dd⟩ := stands
    exact ⟨oi, g, fun v z => by rw [dd] at z; cases z⟩
  keep := fun i h h' stands k => stands.at fun oi g => k it (List.mem_cons_self ..) oi g
  item := by
    intro X eP ew eK calm i pins s σ H E I free stands ⟨isD, less⟩
    subst eP ew eK
    obtain ⟨f0, f1, f2, f3, f4, f5⟩ := free it (List.mem_cons_self ..)
    obtain ⟨hd, here, ex, es', ep', dt, size, ent⟩ := dn_frz I.hok isD
    obtain ⟨rfl, rfl⟩ := dict_ep hdata dt
    have hx : xs[i]? = some xs[i] := List.getElem?_eq_getElem less
    obtain ⟨en, hen, key⟩ := ent i _ hx
    refine next_key_item stands here dt size hen fun h' stands' same => ?_
    have I1 : L2.Inv X pins σ H { s with heap := h' } := I.turned (t' := s.toks) (fun b o hb g => (same.2 b hb).trans g) f0 f1 f3 f4 f5
    obtain ⟨oi, g, c, dd⟩ := id stands'
    exact ⟨en.key, rfl, go_of (s := { s with heap := h' }) g c dd (by decide) ⟨.ref xs[i].2.1, H, I1, key, ⟨rfl, _, hx, rfl⟩, stands', fun b hb => (free b hb).1⟩⟩
  done := by
    intro X eP ew eK calm i pins s σ H E I free stands ⟨isD, most⟩
    subst eP ew eK
    obtain ⟨f0, f1, f2, f3, f4, f5⟩ := free it (List.mem_cons_self ..)
    obtain ⟨hd, here, ex, es', ep', dt, size, ent⟩ := dn_frz I.hok isD
    obtain ⟨rfl, rfl⟩ := dict_ep hdata dt
    exact next_key_end (I.ok.hd calm) stands here dt size most fun h' but => ⟨rfl, I.turned (t' := s.toks) (fun b o hb g => but b o hb g) f0 f1 f3 f4 f5⟩
  self := fun A i s Q E stands h => wpAny_pyIter_keyiter stands h
def iKeysN (P : Program) (w : World) (td : TE) : TI := fun σ H R => td σ H fun x H1 => ∃ (d : Addr) (ob : Obj) (xs : List NEnt), x = .ref d ∧ H1 d = some (.frz ob (DN P w d xs)) ∧ R (Itkn P w d ob xs) H1
theorem pi_keysN {tg e : Expr} {td : TE} (he : PE X e td) : PI X tg e (iKeysN X.prog X.w td) := by
  refine ⟨fun ps0 st0 σ0 H0 R0 Inv0 asked => ?_⟩
  refine thn (he.run ps0 st0 σ0 H0 _ Inv0 asked) ?_
  rintro u st1 ⟨x, H1, I1, rx, d, ob, xs, rfl, isD, wish⟩
  obtain rfl : u = .ref d := rx
  obtain ⟨hd, here, ex, es, ep, dt, size, ent⟩ := dn_frz I1.hok isD
  refine iter_keys hd here ex dt (pi_one (tk := st1.toks) I1 _ (turn_keysN _ dt) ⟨_, Heap.get?_push_size _ rfl, rfl, ?_⟩ wish)
  rw [size]
  rfl
theorem walk_keysN {P : Program} {w : World} {d : Addr} {ob : Obj} {xs : List NEnt} : Walk (Itkn P w d ob xs) xs.length (fun H => H d = some (.frz ob (DN P w d xs))) (fun i H v H' => H' = H ∧ ∃ x, xs[i]? = some x ∧ v = .ref x.2.1) :=
  ⟨fun _ _ hi q => ⟨q, hi⟩, fun _ q => ⟨q, Nat.le_refl _⟩, fun _ _ _ _ _ _ y => y⟩
end

/-! ### two such dicts of the same content -/
section
variable {prog : Program} {w : World} {A : Around} {E : Value → Shared → Prop} {s : Shared} {Ky : Type} [DecidableEq Ky] {knd : HeapKind prog w Ky}
theorem pairs_same {nm : String} {a b : Addr} {xa xb : List (Ky × Addr × Value)} {Q : Bool → Shared → Prop} (room : knd.room A) (na : (a == sysModules) = false) (nb : (b == sysModules) = false)
    (da : s.heap.DictOfH knd a xa) (db : s.heap.DictOfH knd b xb) (long : xa.length = xb.length) (each : ∀ x ∈ xa, ∃ y ∈ xb, y.1 = x.1 ∧ SeqAt.EqAt A s x.2.2 y.2.2 true) (wish : Q true s) :
    wpAny (model prog w) A (Builtin.Dict.samePairs nm a b) Q E s := by
  obtain ⟨oa, ea, epa, ga, _, ta, la, ka, _⟩ := da
  obtain ⟨ob, eb, epb, gb, _, tb, lb, kb, ub⟩ := db
  have za : ea.size = xa.length := size_of_entries la
  have zb : eb.size = xb.length := size_of_entries lb
  unfold Builtin.Dict.samePairs Builtin.Dict.showsAll
  rw [if_neg (by rw [na]; exact Bool.false_ne_true), if_neg (by rw [nb]; exact Bool.false_ne_true)]
  refine wpAny_bind (wpAny_pure (wpAny_bind (wpAny_pure ?_)))
  refine wpAny_bind (wpAny_dictEntries ga ta ?_)
  dsimp only
  refine wpAny_bind (wpAny_dictEntries gb tb ?_)
  rw [if_neg (by rw [za, zb, long]; simp)]
  refine wpAny_bind (wpAny_dictEpoch ga ta ?_)
  refine wpAny_bind ?_
  rw [Std.Legacy.Range.forIn_eq_forIn_range']
  simp only [Std.Legacy.Range.size, Nat.sub_zero, Nat.add_sub_cancel, Nat.div_one]
  refine wpAny_forIn_list _ (fun rest q s' => s' = s ∧ q = (none, ()) ∧ ∃ i, rest = List.range' i (ea.size - i) ∧ i ≤ ea.size) _ ?_ ?_ _ _ ⟨rfl, rfl, 0, by simp, Nat.zero_le _⟩
  · rintro x rest q s' ⟨rfl, rfl, i, hr, hi⟩
    have less : i < ea.size := by
      rcases Nat.lt_or_ge i ea.size with h | h
      · exact h
      · rw [Nat.sub_eq_zero_of_le h] at hr
        simp at hr
    have e1 : ea.size - i = (ea.size - (i + 1)) + 1 := by omega
    rw [e1, List.range'_succ] at hr
    injection hr with h1 hrest
    subst h1
    refine wpAny_bind (wpAny_dictEntries ga ta ?_)
    rw [Array.getElem?_eq_getElem less]
    have lessx : x < xa.length := by omega
    have at_x := entry_at la x
    rw [Array.getElem?_eq_getElem less, List.getElem?_eq_getElem lessx] at at_x
    have ex : ea[x] = entryOfKey knd xa[x] := Option.some.inj at_x
    obtain ⟨y, hy, same, eqv⟩ := each _ (List.getElem_mem lessx)
    obtain ⟨j, hj⟩ := List.mem_iff_getElem?.mp hy
    show wpAny _ _ (holding [ea[x].key, ea[x].val] _ >>= _) _ _ _
    rw [ex]
    refine wpAny_bind (wpAny_holding (wpAny_bind (wpAny_dictFind_heap room (ka _ (List.getElem_mem lessx)) gb tb lb kb ub (fun none_ => ?_) fun j2 p2 h2 => ?_)))
    · exact absurd hj (by have := none_ j y.2; rw [← same] at this; exact this)
    · have yx : (xa[x].1, p2) = y := by
        have m2 := List.mem_of_getElem? h2
        obtain ⟨i1, hi1⟩ := List.getElem?_eq_some_iff.mp hj
        obtain ⟨i2, hi2⟩ := List.getElem?_eq_some_iff.mp h2
        have un := (List.nodup_iff_pairwise_ne.mp ub)
        by_cases c : j = j2
        · subst c
          exact Option.some.inj (h2.symm.trans hj)
        · exfalso
          have key1 : (xb.map (·.1))[j]'(by rw [List.length_map]; exact i1) = xa[x].1 := by rw [List.getElem_map, hi1, same]
          have key2 : (xb.map (·.1))[j2]'(by rw [List.length_map]; exact i2) = xa[x].1 := by rw [List.getElem_map, hi2]
          exact c ((List.getElem_inj ub).mp (key1.trans key2.symm))
      refine wpAny_bind (wpAny_dictEntries gb tb ?_)
      have at_j := entry_at lb j2
      rw [h2] at at_j
      have lj : j2 < eb.size := by
        rcases Nat.lt_or_ge j2 eb.size with h | h
        · exact h
        · rw [Array.getElem?_eq_none h] at at_j; cases at_j
      rw [at_j]
      have val : (entryOfKey knd (xa[x].1, p2)).val = y.2.2 := by rw [← yx]; rfl
      show wpAny _ _ (holding [(entryOfKey knd (xa[x].1, p2)).val] _) _ _ _
      rw [val]
      refine wpAny_holding (eqv prog w _ _ ?_)
      show wpAny _ _ (if (!true) = true then _ else _) _ _ _
      rw [if_neg (by decide)]
      refine wpAny_bind (wpAny_dictEpoch ga ta ?_)
      rw [if_neg (by simp)]
      exact wpAny_pure ⟨rfl, rfl, x + 1, hrest, less⟩
  · rintro q s' ⟨rfl, rfl, i, hr, hi⟩
    exact wpAny_pure wish
end
section
variable {X : Cx}
theorem dictsEq_run {prog : Program} {w : World} {A : Around} {E : Value → Shared → Prop} {s : Shared} {Ky : Type} [DecidableEq Ky] {knd : HeapKind prog w Ky} {a b : Addr} {xa xb : List (Ky × Addr × Value)} {Q : Value → Shared → Prop} (room : knd.room A.in1) (na : (a == sysModules) = false) (nb : (b == sysModules) = false)
    (da : s.heap.DictOfH knd a xa) (db : s.heap.DictOfH knd b xb) (hu : A.units < cLine) (long : xa.length = xb.length) (each : ∀ x ∈ xa, ∃ y ∈ xb, y.1 = x.1 ∧ SeqAt.EqAt A.in1 s x.2.2 y.2.2 true) (wish : Q (.bool true) s) :
    wpAny (model prog w) A (compareOp .Eq (.ref a) (.ref b)) Q E s := by
  refine wpAny_richCompare_same_room (op := .Eq) da.typeIs db.typeIs PySem.F.slot_dict_eq (wpAny_call_entry PySem.F.slot_dict_eq da.typeIs PySem.F.entry_dict_eq ?_ (PySem.F.args_dict_eq_2 _ _)) hu
  show wpAny _ _ (Builtin.Dict.dictSlotArgs "__eq__" ⟨[.ref a, .ref b], []⟩ >>= _) _ _ s
  refine wpAny_bind ?_
  unfold Builtin.Dict.dictSlotArgs
  refine wpAny_bind (wpAny_notOrdered_dict da.typeIs ?_)
  show wpAny _ _ (pure (Value.ref a, Value.ref b)) _ _ s
  refine wpAny_pure ?_
  refine wpAny_bind (wpAny_isInstance (T := "dict") db.typeIs PySem.F.sub_dict_dict ?_)
  simp only [Bool.not_true, Bool.false_eq_true, if_false]
  refine wpAny_bind (wpAny_pure (wpAny_bind (wpAny_pure ?_)))
  refine wpAny_bind (pairs_same room na nb da db long each ?_)
  exact wpAny_pure ⟨_, rfl, (fun x => nomatch x), by simpa using wish⟩
theorem atN_mem {xs : List NEnt} {k : NestedKey} {v : V} (h : atN xs k = some v) : ∃ a, (k, a, v) ∈ xs := by
  induction xs with
  | nil => cases h
  | cons x r ih =>
    by_cases c : x.1 = k
    · have e : atN (x :: r) k = some x.2.2 := by unfold atN; rw [if_pos c]
      rw [e] at h
      refine ⟨x.2.1, ?_⟩
      rw [← c, ← Option.some.inj h]
      exact List.mem_cons_self ..
    · have e : atN (x :: r) k = atN r k := by
        show (if x.1 = k then some x.2.2 else atN r k) = _
        rw [if_neg c]
      rw [e] at h
      obtain ⟨a, m⟩ := ih h
      exact ⟨a, List.mem_cons_of_mem _ m⟩
theorem ent_of : ∀ {xs : List NEnt} {vs : List (NestedKey × Addr × Value)}, Paired EntR xs vs → ∀ p ∈ xs, ∃ q ∈ vs, EntR p q
  | [], _, h, p, m => by cases m
  | x :: xs, _, h, p, m => by
    cases h with
    | @cons _ y _ ys r t =>
      rcases List.mem_cons.mp m with e | m
      · subst e
        exact ⟨y, List.mem_cons_self .., r⟩
      · obtain ⟨q, hq, e⟩ := ent_of t p m
        exact ⟨q, List.mem_cons_of_mem _ hq, e⟩
/-- two such dicts that hold the same -/
def rEqN (P : Program) (w : World) (K : PySem.W.Frag) : R2 := fun x y H Q => ∃ (a b : Addr) (xa xb : List NEnt), x = .ref a ∧ y = .ref b ∧ Rd H a (DN P w a xa) ∧ Rd H b (DN P w b xb) ∧ NOk H xa ∧ NOk H xb ∧ xa.length = xb.length ∧ (∀ e ∈ xa, ∃ v d, atN xb e.1 = some v ∧ Dp K H e.2.2 d ∧ Dp K H v d ∧ SeqAt.shaped d = true) ∧ Q (.bl true) H
theorem op_eqN (hu : X.A.units + 65 < cLine) : OpR X (compareOp .Eq) (rEqN X.prog X.w X.K) := by
  intro ps0 st0 σ0 H0 xr yr vr ur W0 Inv0 relx rely asked
  obtain ⟨a, b, xa, xb, rfl, rfl, isA, isB, ka, kb, long, each, wish⟩ := asked
  cases relx
  cases rely
  obtain ⟨_, na, va, pa, da⟩ := dn_get Inv0.hok isA ka
  obtain ⟨_, nb, vb, pb, db⟩ := dn_get Inv0.hok isB kb
  refine dictsEq_run (knd := nestedKind X.prog X.w) (by show X.A.units + 1 + 8 < cLine; omega) na nb da db (by omega) (by rw [← Paired.length pa, ← Paired.length pb]; exact long) (fun q hq => ?_) ⟨.bl true, H0, Inv0, rfl, wish⟩
  obtain ⟨p, hp, r1⟩ := ent_mem pa q hq
  obtain ⟨v, d, isAt, d1, d2, sh⟩ := each p hp
  obtain ⟨ad, m⟩ := atN_mem isAt
  obtain ⟨q2, hq2, r2⟩ := ent_of pb _ m
  obtain ⟨as, reads1⟩ := Dp.reads Inv0 d _ _ d1 r1.2.2
  obtain ⟨bs, reads2⟩ := Dp.reads Inv0 d _ _ d2 r2.2.2
  have same := PySem.W.keq_at (A := X.A) reads1 reads2 sh sh (by show X.A.units + 1 + 64 < cLine; omega)
  rw [SeqAt.eqv_refl d (SeqAt.canLay_of_shaped sh)] at same
  exact ⟨q2, hq2, by rw [← r2.1, ← r1.1], same⟩
end


/-! ### dict(d), d such a dict -/
theorem stored_app {Ky : Type} [DecidableEq Ky] : ∀ (more kvs : List (Ky × Addr × Value)), (more.map (·.1)).Nodup → (∀ x ∈ more, ∀ y ∈ kvs, y.1 ≠ x.1) → storedAllH kvs more = kvs ++ more
  | [], kvs, _, _ => by
    show kvs = kvs ++ []
    rw [List.append_nil]
  | x :: r, kvs, nd, ap => by
    have step : storedH kvs x.1 x.2.1 x.2.2 = kvs ++ [x] := by
      unfold storedH
      have no : atKey kvs x.1 = none := by
        unfold atKey
        rw [List.find?_eq_none.mpr (fun y hy => by simpa using ap x (List.mem_cons_self ..) y hy)]
        rfl
      rw [no]
      rfl
    rw [List.map_cons, List.nodup_cons] at nd
    show storedAllH (storedH kvs x.1 x.2.1 x.2.2) r = _
    rw [step, stored_app r (kvs ++ [x]) nd.2 (fun z hz y hy => ?_), List.append_assoc]
    · rfl
    · rcases List.mem_append.mp hy with hy | hy
      · exact ap z (List.mem_cons_of_mem _ hz) y hy
      · rw [List.mem_singleton.mp hy]
        exact fun e => nd.1 (e ▸ List.mem_map_of_mem hz)
theorem dict_again {prog : Program} {w : World} {A : Around} {E : Value → Shared → Prop} {s : Shared} {Ky : Type} [DecidableEq Ky] {knd : HeapKind prog w Ky} {o : Addr} {more : List (Ky × Addr × Value)} {Q : Value → Shared → Prop} (room : knd.room A.in1.in1) (no : (o == sysModules) = false) (st : knd.Stays)
    (dm : s.heap.DictOfH knd o more) (apart : (more.map fun x => knd.hash x.1).Nodup) (size : more.length ≤ sizeLine)
    (wish : ∀ h', h'.DictOfH knd s.heap.objs.size more → Heap.SameBut s.heap.objs.size (s.heap.push { cls := .type "dict", data := .dict #[] }) h' → Q (.ref s.heap.objs.size) { s with heap := h' }) :
    wpAny (model prog w) A (call (.type "dict") [.ref o]) Q E s := by
  refine callType_codes (Q₁ := fun obj s₁ => obj = .ref s.heap.objs.size ∧ s₁ = { s with heap := s.heap.push { cls := .type "dict", data := .dict #[] } }) PySem.F.kt_called_dict (PySem.F.kt_typeCall_dict_1 _) PySem.F.entry_dict_init (kt_code_dict_new _ ⟨rfl, rfl⟩) ?_
  rintro obj s₁ ⟨rfl, rfl⟩
  have new : (s.heap.push { cls := .type "dict", data := .dict #[] }).DictOfH knd s.heap.objs.size [] := Heap.DictOfH.new s.heap
  obtain ⟨ob, es, ep, g, c, dt, el, is, nd⟩ := id dm
  have stay : ∀ x ∈ more, knd.is (s.heap.push { cls := .type "dict", data := .dict #[] }) x.1 x.2.1 := fun x hx => st.stays (fun b q _ _ e _ => Heap.get?_push_of_some _ e) (is x hx)
  have there : (s.heap.push { cls := .type "dict", data := .dict #[] }).DictOfH knd o more := ⟨ob, es, ep, Heap.get?_push_of_some _ g, c, dt, el, stay, nd⟩
  have other : s.heap.objs.size ≠ o := fun e => absurd (Heap.lt_size g) (by rw [e]; exact Nat.lt_irrefl _)
  refine ⟨new.typeIs, PySem.F.args_dict_init_2 _ _, ?_⟩
  unfold Builtin.«dict.__init__»
  refine wpAny_bind ?_
  unfold Builtin.Dict.selfAndRest
  refine wpAny_bind (wpAny_notOrdered_dict new.typeIs ?_)
  show wpAny _ _ (pure (s.heap.objs.size, [Value.ref o])) _ _ _
  refine wpAny_pure ?_
  refine updateFrom_dictH (nm := "dict.__init__") .none room other no new there (.inr ⟨fun x hx => st.tuple (s := { s with heap := s.heap.push { cls := .type "dict", data := .dict #[] } }) (stay x hx), apart⟩) (by simpa using size) fun h' d1 d2 same => ?_
  rw [stored_app more [] nd (fun _ _ y hy => by cases hy)] at d1
  exact ⟨rfl, wish h' d1 same⟩
section
variable {X : Cx}
def rDictN (P : Program) (w : World) : List V → Hp → VK → Prop := fun vs H Q => ∃ (d : Addr) (xs : List NEnt), vs = [.ref d] ∧ Rd H d (DN P w d xs) ∧ NOk H xs ∧ (xs.map fun x => (nestedKind P w).hash x.1).Nodup ∧ ∀ p, H p = none → Q (.ref p) (upd H p (DN P w p xs))
theorem ent_hash {P : Program} {w : World} {xs : List NEnt} {vs : List (NestedKey × Addr × Value)} (h : Paired EntR xs vs) : (vs.map fun x => (nestedKind P w).hash x.1) = xs.map fun x => (nestedKind P w).hash x.1 := by
  have e := congrArg (List.map (nestedKind P w).hash) (ent_keys h)
  rw [List.map_map, List.map_map] at e
  exact e
theorem call_dictN (hu : X.A.units + 10 < cLine) : CallR X (.type "dict") (rDictN X.prog X.w) := by
  intro ps0 st0 σ0 H0 args us W0 Inv0 rel asked
  obtain ⟨d, xs, rfl, isD, keys, apart, wish⟩ := asked
  obtain ⟨u, rfl, ru⟩ := vals1 rel
  obtain rfl : u = .ref d := ru
  obtain ⟨hl, hd, vs, pr, dh⟩ := dn_get Inv0.hok isD keys
  refine dict_again (knd := nestedKind X.prog X.w) (by show X.A.units + 1 + 1 + 8 < cLine; omega) hd nestedKind_stays dh (by rw [ent_hash pr]; exact apart) (by rw [← Paired.length pr]; exact hl) fun h' dh' same => ?_
  refine ⟨.ref st0.heap.objs.size, upd H0 st0.heap.objs.size (DN X.prog X.w st0.heap.objs.size xs), Inv0.laid (a := st0.heap.objs.size) (o := DN X.prog X.w st0.heap.objs.size xs) (t' := st0.toks) (fun b q hq => ?_) (Nat.le_refl _) (dn_new hl (beq_eq_false_iff_ne.mpr (Ne.symm (Nat.ne_of_lt Inv0.big))) pr dh'), rfl, wish _ (Inv0.hok.fresh (Nat.le_refl _))⟩
  exact (same.2 b (Nat.ne_of_lt (Heap.lt_size hq))).trans (Heap.get?_push_of_some _ hq)
end


/-! ### set(t), t a tuple of numbers -/
section
variable {X : Cx}
def rSetTup (K : PySem.W.Frag) (w : World) : List V → Hp → VK → Prop := fun vs H Q => ∃ (l : Addr) (ns : List Int), vs = [.ref l] ∧ SqT K H l (ns.map V.int) ∧ ns.length ≤ 1000 ∧ ∀ (a : Addr) (c : Nat), c ≤ ns.length → H a = none → Q (.ref a) (upd H a (SetO w a (fun j => decide (j ∈ ns)) c))
theorem ints_of : ∀ {ns : List Int} {us : List Value}, Vals (ns.map V.int) us → IntsAre us ns
  | [], _, h => by cases h; exact .nil
  | n :: r, _, h => by
    cases h with
    | cons a b =>
      obtain ⟨k, rfl⟩ := a
      exact .cons n k (ints_of b)
theorem call_setTup (calm : X.calm = true) : CallR X (.type "set") (rSetTup X.K X.w) := by
  intro ps0 st0 σ0 H0 args us W0 Inv0 rel asked
  obtain ⟨l, ns, rfl, sq, most, wish⟩ := asked
  obtain ⟨u, rfl, ru⟩ := vals1 rel
  obtain rfl : u = .ref l := ru
  obtain ⟨its, rv, pl, _⟩ := Inv0.tuple sq
  refine call_set_tupI ns (Inv0.ok.hd calm) pl (by simpa using ints_of rv) (by unfold scanBound; omega) fun h' tk c R less kept => ?_
  have free : H0 st0.heap.objs.size = none := Inv0.hok.fresh (Nat.le_refl _)
  exact ⟨.ref st0.heap.objs.size, upd H0 st0.heap.objs.size (SetO X.w st0.heap.objs.size (fun j => decide (j ∈ ns)) c), Inv0.laid (a := st0.heap.objs.size) (t' := tk) kept (Nat.le_refl _) (setO_new R), rfl, wish _ c less free⟩
end


/-! ### min(xs, default=d), xs a list of numbers -/
section
variable {prog : Program} {w : World} {A : Around} {R : Result → Shared → Prop} {I : Addr} {fp wr : List Addr} {n : Nat} {P : Nat → Value → Prop} {St : Nat → Heap → Prop}
/-- the least one so far -/
def Least (val : Nat → Int) (j : Nat) : Option (Int × Tok) → Prop
  | none => j = 0
  | some p => (∃ i, i < j ∧ p.1 = val i) ∧ ∀ i, i < j → p.1 ≤ val i
def keptV : Option (Int × Tok) → Array Value
  | none => #[]
  | some p => #[.int p.1 p.2, .int p.1 p.2]
def lastV (d : Value) : Option (Int × Tok) → Value
  | none => d
  | some p => .int p.1 p.2
theorem least_loop (W : Walks prog w A.in1 I fp wr n P St) (S : Addr) (away : S ∉ fp) (val : Nat → Int) (num : ∀ i v, P i v → ∃ t, v = .int (val i) t) (d : Value) :
    ∀ (k j : Nat) (s : Shared) (old : Option (Int × Tok)) (c : Nat), n - j = k → j ≤ n → St j s.heap → Least val j old → s.heap.get? S = some { cls := .type "list", dict := none, data := .seq (keptV old) c, slots := #[] } →
    (∀ (fin : Option (Int × Tok)) (h' : Heap) (tk : Nat), Least val n fin → (∀ b o, b ∉ wr → b ≠ S → s.heap.get? b = some o → h'.get? b = some o) → R (.ok (.ret (lastV d fin))) { s with heap := h', toks := tk }) →
    codeAny (model prog w) A (.builtin "min.loop" ⟨[.ref I, .none, .ref S], [(Str.ofString "default", d)]⟩) R s := by
  have apart : S ∉ wr := fun z => away (W.sub _ z)
  have word : (toString "min" ++ toString ".loop" : String) = "min.loop" := by decide
  intro k
  induction k with
  | zero =>
    intro j s old c hk hj st least there wish
    obtain rfl : j = n := by omega
    refine codeAny_builtin PySem.F.entry_min_loop ?_
    rw [Around.under_plainId PySem.F.plain_min_loop _]
    show wpAny _ A.in1 (seqItems? (.ref S) >>= _) _ _ s
    refine wpAny_bind (wpAny_seqItems there rfl ?_)
    show wpAny _ A.in1 (tryCatch (pyNext (.ref I)) _ >>= _) _ _ s
    refine wpAny_bind (wpAny_tryCatch (W.done s _ _ st fun h1 tk1 kept1 => ?_))
    have there1 := kept1 S _ apart there
    cases old with
    | none =>
      show wpAny _ A.in1 (rule _ >>= _) _ _ _
      refine wpAny_bind (wpAny_rule (wpAny_pure ?_))
      exact wish none h1 tk1 least fun b o nb _ e => kept1 b o nb e
    | some p =>
      show wpAny _ A.in1 (updateSeq S (fun _ => #[]) >>= _) _ _ _
      refine wpAny_bind ?_
      refine wpAny_updateSeq (hz := by rw [sizeLine_eq]; exact (by decide : (2 : Nat) ≤ 16777216)) there1 rfl (wpAny_bind (wpAny_letGo (wpAny_pure ?_)))
      exact wish (some p) _ tk1 least fun b o nb nS e => (Heap.get?_update_other _ _ (Ne.symm nS)).trans (kept1 b o nb e)
  | succ k ih =>
    intro j s old c hk hj st least there wish
    have less : j < n := by omega
    refine codeAny_builtin PySem.F.entry_min_loop ?_
    rw [Around.under_plainId PySem.F.plain_min_loop _]
    show wpAny _ A.in1 (seqItems? (.ref S) >>= _) _ _ s
    refine wpAny_bind (wpAny_seqItems there rfl ?_)
    show wpAny _ A.in1 (tryCatch (pyNext (.ref I)) _ >>= _) _ _ s
    refine wpAny_bind (wpAny_tryCatch (W.item j s _ _ less st fun v h1 tk1 hv st1 kept1 => ?_))
    obtain ⟨t, rfl⟩ := num _ _ hv
    have there1 := kept1 S _ apart there
    cases old with
    | none =>
      obtain rfl : j = 0 := least
      show wpAny _ A.in1 (updateSeq S (fun _ => #[.int (val 0) t, .int (val 0) t]) >>= _) _ _ _
      refine wpAny_bind ?_
      refine wpAny_updateSeq there1 rfl ?_
      rw [word]
      refine wpAny_pure ⟨plainId_quiet PySem.F.plain_min_loop _, ih 1 _ (some (val 0, t)) _ (by omega) less (W.frame _ _ _ st1 fun b hb q e => ?_) ⟨⟨0, by omega, rfl⟩, fun i hi => ?_⟩ (Heap.get?_update_self _ there1 rfl) fun fin h2 tk2 l2 kept2 => ?_⟩
      · exact (Heap.get?_update_other _ _ (fun z : S = b => away (by rw [z]; exact hb))).trans e
      · obtain rfl : i = 0 := by omega
        exact Int.le_refl _
      · exact wish fin h2 tk2 l2 fun b o nb nS e => kept2 b o nb nS ((Heap.get?_update_other _ _ (Ne.symm nS)).trans (kept1 b o nb e))
    | some p =>
      obtain ⟨⟨i0, hi0, e0⟩, all⟩ := least
      show wpAny _ A.in1 (tryCatch (holding [.int (val j) t, .int (val j) t] (richCompare .Lt (.int (val j) t) (.int p.1 p.2) >>= _)) _ >>= _) _ _ _
      refine wpAny_bind (wpAny_tryCatch (wpAny_holding (wpAny_bind (richCompare_gives (op := .Lt) (typeIs_int _ _ t) (typeIs_int _ _ p.2) PySem.F.slot_int_lt PySem.F.entry_int_lt (PySem.F.args_int_lt_2 _ _) (gives_int_lt _ _ t p.2) (fun z => nomatch z) ?_))))
      refine wpAny_bind (wpAny_holding (wpAny_truthy_bool ?_))
      refine wpAny_bind (wpAny_letGo (wpAny_pure ?_))
      by_cases c2 : val j < p.1
      · rw [if_pos (by simpa using c2)]
        refine wpAny_bind ?_
        refine wpAny_updateSeq (hz := by rw [sizeLine_eq]; exact (by decide : (2 : Nat) ≤ 16777216)) there1 rfl (wpAny_bind (wpAny_letGo ?_))
        rw [word]
        refine wpAny_pure ⟨plainId_quiet PySem.F.plain_min_loop _, ih (j + 1) _ (some (val j, t)) _ (by omega) less (W.frame _ _ _ st1 fun b hb q e => ?_) ⟨⟨j, by omega, rfl⟩, fun i hi => ?_⟩ (Heap.get?_update_self _ there1 rfl) fun fin h2 tk2 l2 kept2 => ?_⟩
        · exact (Heap.get?_update_other _ _ (fun z : S = b => away (by rw [z]; exact hb))).trans e
        · rcases Nat.lt_or_ge i j with h | h
          · have := all i h
            show val j ≤ val i
            omega
          · obtain rfl : i = j := by omega
            exact Int.le_refl _
        · exact wish fin h2 tk2 l2 fun b o nb nS e => kept2 b o nb nS ((Heap.get?_update_other _ _ (Ne.symm nS)).trans (kept1 b o nb e))
      · rw [if_neg (by simpa using c2)]
        refine wpAny_bind (wpAny_letGo ?_)
        rw [word]
        refine wpAny_pure ⟨plainId_quiet PySem.F.plain_min_loop _, ih (j + 1) _ (some p) c (by omega) less st1 ⟨⟨i0, by omega, e0⟩, fun i hi => ?_⟩ there1 fun fin h2 tk2 l2 kept2 => ?_⟩
        · rcases Nat.lt_or_ge i j with h | h
          · exact all i h
          · obtain rfl : i = j := by omega
            show p.1 ≤ val i
            omega
        · exact wish fin h2 tk2 l2 fun b o nb nS e => kept2 b o nb nS (kept1 b o nb e)
end

section
variable {X : Cx}
theorem args_min_d (a d : Value) : argsOk "min" ⟨[a], [(Str.ofString "default", d)]⟩ := by unfold argsOk; kernel_rfl
theorem getD_int {its : Array Value} {ns : List Int} (h : IntsAre its.toList ns) {i : Nat} {v : Value} (e : its[i]? = some v) : ∃ t, v = .int (ns.getD i 0) t := by
  have gen : ∀ {us : List Value} {ms : List Int}, IntsAre us ms → ∀ (k : Nat) (u : Value), us[k]? = some u → ∃ t, u = .int (ms.getD k 0) t := by
    intro us ms r
    induction r with
    | nil => intro k u z; simp at z
    | cons n t _ ih =>
      intro k u z
      cases k with
      | zero =>
        have z2 : Value.int n t = u := by simpa using z
        exact ⟨t, by rw [← z2]; rfl⟩
      | succ k =>
        obtain ⟨t2, z3⟩ := ih k u (by simpa using z)
        exact ⟨t2, by rw [z3]; rfl⟩
  exact gen h i v (by rw [← e, Array.getElem?_toList])
/-- min(xs, default=d): the number, or what d is -/
theorem run_minD {pins : List (Addr × Obj)} {σ : L2.St} {H : Hp} {s : Shared} {l : Addr} {ns : List Int} {d : Value} {x : V} {Q : VK} (calm : X.calm = true) (I : L2.Inv X pins σ H s) (sq : SqL X.K H l (ns.map V.int)) (rx : RelV x d)
    (none_ : ns = [] → Q x H) (some_ : ∀ m, m ∈ ns → (∀ k ∈ ns, m ≤ k) → Q (.int m) H) : wpAny (model X.prog X.w) X.A (call (.builtin "min") [.ref l] [(Str.ofString "default", d)]) (EP X pins σ Q) X.xe s := by
  obtain ⟨its, rv, pl, _⟩ := I.list sq
  have numbers : IntsAre its.toArray.toList ns := by simpa using ints_of rv
  have long : its.toArray.size = ns.length := by rw [List.size_toArray, ← rv.length]; exact List.length_map _
  have word : (toString "min" ++ toString ".loop" : String) = "min.loop" := by decide
  have there := pl.isList
  have low : l < s.heap.objs.size := by obtain ⟨_, e, _⟩ := there; exact Heap.lt_size e
  refine PyProof.Rows.kmk_tree PySem.F.kind_min PySem.F.plain_min PySem.F.entry_min (args_min_d _ _) ?_
  show wpAny _ X.A.in1 (Builtin.Builtins.bindParams "min" ["key", "default"] 0 ⟨[], [(Str.ofString "default", d)]⟩ >>= _) _ _ s
  refine wpAny_bind (wpAny_of_eq (show Builtin.Builtins.bindParams "min" ["key", "default"] 0 ⟨[], [(Str.ofString "default", d)]⟩ = pure [none, some d] from rfl) ?_)
  refine wpAny_bind (wpAny_pure ?_)
  refine wpAny_bind (wpAny_pyIter_list there ?_)
  refine wpAny_bind (wpAny_newObj_type ?_)
  rw [word]
  refine wpAny_pure ⟨plainId_quiet PySem.F.plain_min_loop _, ?_⟩
  have iter : (s.heap.push { cls := .type "list_iterator", data := .fields #[.ref l, .int 0 0] }).objs.size = s.heap.objs.size + 1 := Heap.size_push ..
  refine least_loop (Walks.list (A := X.A.in1) (I.ok.hd calm) s.heap.objs.size l (Nat.ne_of_lt low) its.toArray) _ (fun z => ?_) (fun i => ns.getD i 0) (fun i v e => getD_int numbers e) d _ 0 _ none _ rfl (Nat.zero_le _) ⟨⟨_, Heap.get?_push_of_some _ (Heap.get?_push_size _ rfl), rfl, rfl⟩, (there.push _).push _⟩ rfl (Heap.get?_push_size _ rfl) fun fin h' tk least kept => ?_
  · have z2 : (s.heap.push { cls := .type "list_iterator", data := .fields #[.ref l, .int 0 0] }).objs.size ∈ [s.heap.objs.size, l] := z
    rw [iter] at z2
    rcases List.mem_cons.mp z2 with e | z2
    · exact absurd e (Nat.succ_ne_self _)
    · have e : (s.heap.objs.size + 1 : Nat) = l := List.mem_singleton.mp z2
      rw [← e] at low
      exact absurd low Nat.not_succ_lt_self
  · have old : ∀ b o, s.heap.get? b = some o → h'.get? b = some o := fun b o e => by
      have lb : (b : Nat) < s.heap.objs.size := Heap.lt_size e
      refine kept b o (fun z => ?_) (fun z => ?_) (Heap.get?_push_of_some _ (Heap.get?_push_of_some _ e))
      · have z2 : b = s.heap.objs.size := List.mem_singleton.mp z
        rw [z2] at lb
        exact Nat.lt_irrefl _ lb
      · have z2 : (b : Nat) = (s.heap.push { cls := .type "list_iterator", data := .fields #[.ref l, .int 0 0] }).objs.size := z
        rw [iter] at z2
        rw [z2] at lb
        exact Nat.not_succ_lt_self lb
    have I2 : L2.Inv X pins σ H { s with heap := h', toks := tk } := I.kept old
    cases fin with
    | none =>
      have empty : its.toArray.size = 0 := least
      have e : ns = [] := List.eq_nil_of_length_eq_zero (by rw [← long]; exact empty)
      exact ⟨x, H, I2, rx, none_ e⟩
    | some p =>
      obtain ⟨⟨i, hi, e⟩, all⟩ := least
      rw [long] at hi all
      have at_i : ns.getD i 0 = ns[i] := by rw [List.getD_eq_getElem?_getD, List.getElem?_eq_getElem hi]; rfl
      refine ⟨.int p.1, H, I2, ⟨p.2, rfl⟩, some_ _ (by rw [e]; show ns.getD i 0 ∈ ns; rw [at_i]; exact List.getElem_mem hi) fun k hk => ?_⟩
      obtain ⟨j, hj, ej⟩ := List.getElem_of_mem hk
      have this : p.1 ≤ ns.getD j 0 := all j hj
      rw [List.getD_eq_getElem?_getD, List.getElem?_eq_getElem hj] at this
      rw [← ej]
      exact this
end

section
variable {X : Cx}
def rMinD (K : PySem.W.Frag) : List V → List V → Hp → VK → Prop := fun vs ds H Q => ∃ (l : Addr) (ns : List Int) (x : V), vs = [.ref l] ∧ ds = [x] ∧ SqL K H l (ns.map V.int) ∧ (ns = [] → Q x H) ∧ ∀ m, m ∈ ns → (∀ k ∈ ns, m ≤ k) → Q (.int m) H
theorem call_minD (calm : X.calm = true) : CallRK X (.builtin "min") ["default"] (rMinD X.K) := by
  intro ps0 st0 σ0 H0 vs ds us ws W0 Inv0 rel1 rel2 asked
  obtain ⟨l, ns, x, rfl, rfl, sq, none_, some_⟩ := asked
  obtain ⟨u, rfl, ru⟩ := vals1 rel1
  obtain ⟨d, rfl, rd⟩ := vals1 rel2
  obtain rfl : u = .ref l := ru
  exact run_minD calm Inv0 sq rd none_ some_
end

section
open PySem.W PySem.Calls HandSHeadRun
/-! ### a top that begins with an import -/
/-- the opening's run, on the tree -/
def impF (st : SharedT → Thread → Option (SharedT × Thread)) : Nat → SharedT → Thread → Option SharedT
  | 0, _, _ => none
  | m + 1, s, t => match t.atExitBegin with
    | some [] => some s
    | some (_ :: _) => none
    | none => match st s t with
      | some (s', t') => frS s' fun s' => impF st m s' t'
      | none => none
theorem impF_ok {tb : String → Option Builtin} {p : Program} {w : World} : ∀ {m : Nat} {s s' : SharedT} {t : Thread}, impF (stepT (denote tb) p w) m s t = some s' → importEnds tb p w m s.abs t = some s'.abs
  | 0, _, _, _, h => by cases h
  | m + 1, s, s', t, h => by
    unfold impF at h
    unfold importEnds
    cases ht : t.atExitBegin with
    | some l =>
      rw [ht] at h
      cases l with
      | nil => cases h; rfl
      | cons _ _ => cases h
    | none =>
      rw [ht] at h
      have h2 : (match stepT (denote tb) p w s t with
        | some (s', t') => frS s' fun s' => impF (stepT (denote tb) p w) m s' t'
        | none => none) = some s' := h
      cases hs : stepT (denote tb) p w s t with
      | none =>
        rw [hs] at h2
        cases h2
      | some r =>
        obtain ⟨s2, t2⟩ := r
        rw [hs] at h2
        have h3 : (frS s2 fun s' => impF (stepT (denote tb) p w) m s' t2) = some s' := h2
        rw [frS_eq] at h3
        show (match step (denote tb) p w s.abs t with
          | .go s' t' => importEnds tb p w m s' t'
          | .halt _ _ => none) = some s'.abs
        rw [stepT_spec hs]
        exact impF_ok h3
/-- the state ahead of all -/
def startT (p : Program) : SharedT := ⟨.nil, 0, (start (opening p)).1.heap.life, (start (opening p)).1.gens, (start (opening p)).1.drawn, (start (opening p)).1.toks, (start (opening p)).1.os⟩
theorem startT_abs (p : Program) : (startT p).abs = (start (opening p)).1 := rfl
def boundT (s : SharedT) (a : Addr) (x : Str) : Option Value := match getT s a with
  | some o => match o.data with
    | .dict es _ => (es.find? (·.key.isStr x)).map (·.val)
    | _ => none
  | none => none
theorem boundT_eq (s : SharedT) (a : Addr) (x : Str) : boundT s a x = boundIn s.abs.heap a x := by
  unfold boundT boundIn
  rw [getT_eq]
  rfl
/-- one module's names fenced, on the tree -/
def fenceT (m : Str) (s : SharedT) : Option SharedT := match boundT s sysModules m, tameNamesOf? m with
  | some (.ref a), some row => match getT s a with
    | some o => match o.dict with
      | some D => match getT s D with
        | some od => match s.tree.get D with
          | some _ => (fenceDict? m row od).map fun od' => { s with tree := s.tree.set D fun _ => od' }
          | none => none
        | none => none
      | none => none
    | none => none
  | _, _ => none
theorem fenceT_ok {m : Str} {s s' : SharedT} (h : fenceT m s = some s') : fenceModule? m s.abs = some s'.abs := by
  unfold fenceT at h
  unfold fenceModule?
  rw [← boundT_eq]
  cases e1 : boundT s sysModules m with
  | none => rw [e1] at h; cases h
  | some v =>
    rw [e1] at h
    cases e2 : tameNamesOf? m with
    | none => rw [e2] at h; cases v <;> cases h
    | some row =>
      rw [e2] at h
      cases v with
      | ref a =>
        dsimp only at h ⊢
        rw [← getT_eq]
        cases e3 : getT s a with
        | none => rw [e3] at h; cases h
        | some o =>
          rw [e3] at h
          dsimp only at h ⊢
          cases e4 : o.dict with
          | none => rw [e4] at h; cases h
          | some D =>
            rw [e4] at h
            dsimp only at h ⊢
            rw [← getT_eq]
            cases e5 : getT s D with
            | none => rw [e5] at h; cases h
            | some od =>
              rw [e5] at h
              dsimp only at h ⊢
              cases e6 : s.tree.get D with
              | none => rw [e6] at h; cases h
              | some q =>
                rw [e6] at h
                dsimp only at h
                cases e7 : fenceDict? m row od with
                | none => rw [e7] at h; cases h
                | some od' =>
                  rw [e7] at h
                  have h2 : some ({ s with tree := s.tree.set D fun _ => od' } : SharedT) = some s' := h
                  rw [← Option.some.inj h2]
                  show some _ = some (SharedT.abs _)
                  congr 1
                  obtain ⟨T, n, life, gens, drawn, toks, os⟩ := s
                  show (⟨(absHeap T n life).update D _, gens, drawn, toks, os⟩ : Shared) = ⟨absHeap (T.set D _) n life, gens, drawn, toks, os⟩
                  rw [absHeap_set e6]
      | _ => cases h
/-- the state behind the opening and the state behind the top -/
def endI (stI st : SharedT → Thread → Option (SharedT × Thread)) (M : Nat) (p : Program) (m : Str) : Option (SharedT × SharedT) := match impF stI M (startT p) (start (opening p)).2 with
  | some s0 => match fenceT m s0 with
    | some s1 => frS s1 fun s1 => (goF st s1.n (s1.abs.heap.nsMap mainGlobals "__annotations__") M s1 (topStub p)).map fun s => (s1, s)
    | none => none
  | none => none
theorem endI_eq (M : Nat) (p : Program) (w : World) (m : Str) : endI (stepT (denote treeTable) (opening p) w) (stepT (denote treeTable) p w) M p m = endI (stepQ (denQ tabQ) (opening p) w) (stepQ (denQ tabQ) p w) M p m := by
  rw [stepQ_eq, denQ_eq, tabQ_eq]
theorem left_imp {p q : Program} {loose : List Str} {Xt : Shared → Bool} {α : Type} {Yf : Shared → α} {Ya : World → α} {N M : Nat} {m : Str}
    (hm : importedModules p.main.body = [m]) (hnp : p.main.body.any namesNumpy = false) (le : Nat.ble M N = true)
    (run : ∀ w : World, (endI (stepT (denote treeTable) (opening p) w) (stepT (denote treeTable) p w) M p m).map (fun r => (r.1.abs.heap.isNs mainGlobals && r.1.gens.size == 0, looksF p r.1.abs.heap r.2.abs, openSeen q loose (importedModules p.main.body) Xt true r.2.abs, Yf r.2.abs)) = some (true, true, openGood q loose, Ya w)) :
    LeftO p q loose Xt Yf Ya N true := fun w => by
  obtain ⟨⟨s1, s⟩, hs, hv⟩ := Option.map_eq_some_iff.mp (run w)
  obtain ⟨l0, l1, l2, l3⟩ : _ ∧ _ ∧ _ ∧ _ := by simpa only [Prod.mk.injEq] using hv
  unfold endI at hs
  cases e0 : impF (stepT (denote treeTable) (opening p) w) M (startT p) (start (opening p)).2 with
  | none => rw [e0] at hs; cases hs
  | some s0 =>
    rw [e0] at hs
    dsimp only at hs
    cases e1 : fenceT m s0 with
    | none => rw [e1] at hs; cases hs
    | some s1' =>
      rw [e1] at hs
      dsimp only at hs
      rw [frS_eq] at hs
      obtain ⟨s', g, z⟩ := Option.map_eq_some_iff.mp hs
      obtain ⟨rfl, rfl⟩ := Prod.mk.inj z
      have le' := Nat.le_of_ble_eq_true le
      have i1 := importEnds_mono (N - M) _ _ _ _ (impF_ok e0)
      rw [show M + (N - M) = N by omega, startT_abs] at i1
      have a : fencedOpening treeTable p w N = some s1'.abs := by
        unfold fencedOpening
        rw [i1]
        show fenceModules? p s0.abs = _
        unfold fenceModules?
        rw [hm, hnp]
        show ((fenceModule? m s0.abs).bind (fenceAll? [])).bind _ = _
        rw [fenceT_ok e1]
        rfl
      have r := topRun_mono (N - M) _ _ _ _ (goF_ok g)
      rw [show M + (N - M) = N by omega] at r
      have size : s1'.abs.heap.objs.size = s1'.n := absHeap_size ..
      have t : topFrom treeTable p w N s1'.abs = some s'.abs := by
        unfold topFrom
        have l0' : (s1'.abs.heap.isNs mainGlobals && s1'.abs.gens.size == 0) = true := l0
        rw [l0']
        show (topRun treeTable p w s1'.abs.heap.objs.size (s1'.abs.heap.nsMap mainGlobals "__annotations__") N s1'.abs (topStub p)).bind _ = _
        rw [size, r]
        show (match staticsOk (importedModules p.main.body) s1'.abs.heap s'.abs.heap && namesBound p s'.abs.heap && gensDone s'.abs && laidKept s1'.abs.heap s'.abs.heap with | true => some s'.abs | false => none) = _
        have l1' : (staticsOk (importedModules p.main.body) s1'.abs.heap s'.abs.heap && namesBound p s'.abs.heap && gensDone s'.abs && laidKept s1'.abs.heap s'.abs.heap) = true := l1
        rw [l1']
      unfold openEnds
      rw [a]
      show (topFrom treeTable p w N s1'.abs).map _ = _
      rw [t]
      exact congrArg some (Prod.ext l2 l3)
def RunEqI (r : OpenRow) (q : Program) (H : Hook) (ob : SharedT → H.α) (M : Nat) (loose : List PySem.Str) (m : Str) (w : World) : Prop :=
  (endI (stepQ (denQ tabQ) (opening r.prog) w) (stepQ (denQ tabQ) r.prog w) M r.prog m).map (fun s => (s.1.abs.heap.isNs mainGlobals && s.1.gens.size == 0, looksF r.prog s.1.abs.heap s.2.abs, seenQ q loose (importedModules r.prog.main.body) (fun s => xlAt q [] s && recOk r.toRowW.records s) s.2.abs, ob s.2)) = some (true, true, openGood q loose, H.val w)
theorem head_imp {r : OpenRow} {q : Program} {H : Hook} {ob : SharedT → H.α} {M : Nat} {loose : List PySem.Str} {d : DefRec} {kwd : List (PySem.Str × PySem.Expr)} {m : Str} (ho : ∀ s : SharedT, ob s = H.obs s.abs)
    (hm : importedModules r.prog.main.body = [m]) (hnp : r.prog.main.body.any namesNumpy = false) (run : ∀ w, RunEqI r q H ob M loose m w)
    (hdef : defOf q r.name = some (d, kwd)) (hp : r.prog.theDef r.name = some (d.params, d.body, d.scope)) (hk : kwWritten? d.params.kwonlyargs d.params.kw_defaults = some kwd)
    (hwr : (!r.writes || r.records.isEmpty) = true) (k1 : r.wellSaid = true) (ok : (chainsOk q && opensWell r.prog && (frees r.toRowW && r.within.isEmpty)) = true) (hb : r.prog.bare) (hw : r.toRowW.promised)
    (call : WalkO q loose (XL q []) H.says r.toRowW d kwd fun f vs => PySem.call f vs) : r.Holds := by
  have left : LeftO r.prog q loose (fun s => xlAt q [] s && recOk r.toRowW.records s) H.obs H.val M true :=
    left_imp (M := M) hm hnp (Nat.ble_eq_true_of_le (Nat.le_refl _)) fun w => by
      have z := run w
      have eo : ob = fun s => H.obs s.abs := funext ho
      unfold RunEqI at z
      rw [eo] at z
      simp only [endI_eq, seenQ_eq]
      exact z
  exact holds_open (r := r) (q := q) (loose := loose) (XP := XL q []) (YP := H.says) (d := d) (kwd := kwd) left H.of H.keeps (fun s z => xl_of s (Bool.and_eq_true_iff.mp z).1) XL.keeps hdef hp hk (fun s z => recFacts_of (Bool.and_eq_true_iff.mp z).2) hwr k1 ok hb hw call
end

/-! ### the table as it stands -/
def keyN (k : Key) : NestedKey := .tup [.tup (k.1.map .num), .num k.2]
def optV : Option Int → V
  | none => .non
  | some n => .int n
def valV (v : TV) : List V := [.int v.1, optV v.2]
theorem map_num_inj : ∀ {a b : List Int}, a.map NestedKey.num = b.map NestedKey.num → a = b
  | [], [], _ => rfl
  | [], _ :: _, h => by cases h
  | _ :: _, [], h => by cases h
  | x :: a, y :: b, h => by
    rw [List.map_cons, List.map_cons] at h
    injection h with h1 h2
    injection h1 with h1
    rw [h1, map_num_inj h2]
theorem keyN_inj {a b : Key} (h : keyN a = keyN b) : a = b := by
  unfold keyN at h
  injection h with h
  injection h with h1 h2
  injection h1 with h1
  injection h2 with h2 _
  injection h2 with h2
  exact Prod.ext (map_num_inj h1) h2
theorem keysV_ints {H : Hp} : ∀ {ns : List Int} {xs : List V}, KeysV H (ns.map .num) xs → xs = ns.map V.int
  | [], _, h => by cases h; rfl
  | n :: r, _, h => by
    cases h with
    | cons a b =>
      cases a
      rw [keysV_ints b]
      rfl
theorem keysV_of {H : Hp} : ∀ ns : List Int, KeysV H (ns.map .num) (ns.map V.int)
  | [] => .nil
  | n :: r => .cons (.int n) (keysV_of r)
theorem keyV_at {H : Hp} {a b : Addr} {k : Key} (ha : H a = some (.tup [.ref b, .int k.2])) (hb : H b = some (.tup (k.1.map V.int))) : KeyV H (keyN k) (.ref a) :=
  .tup ha (.cons (.tup hb (keysV_of _)) (.cons (.int _) .nil))
theorem keyV_inv {H : Hp} {a : Addr} {k : Key} (h : KeyV H (keyN k) (.ref a)) : ∃ b, H a = some (.tup [.ref b, .int k.2]) ∧ H b = some (.tup (k.1.map V.int)) := by
  cases h with
  | tup ha h =>
    cases h with
    | cons h1 h2 =>
      cases h2 with
      | cons h2 h3 =>
        cases h3
        cases h2
        cases h1 with
        | tup hb h1 => exact ⟨_, ha, by rw [← keysV_ints h1]; exact hb⟩
theorem depth_nums : ∀ ns : List Int, NestedKey.depthAll (ns.map .num) ≤ 1
  | [] => by decide
  | n :: r => by
    have ih := depth_nums r
    rw [List.map_cons, NestedKey.depthAll]
    have : NestedKey.depth (.num n) ≤ 1 := by simp [NestedKey.depth]
    omega
theorem depth_key (k : Key) : (keyN k).depth ≤ 8 := by
  have h := depth_nums k.1
  unfold keyN
  simp only [NestedKey.depth, NestedKey.depthAll]
  omega
def EntOk (H : Hp) (x : NEnt) (e : Key × TV) : Prop := x.1 = keyN e.1 ∧ KeyV H (keyN e.1) (.ref x.2.1) ∧ ∃ p, x.2.2 = .ref p ∧ H p = some (.tup (valV e.2))
def TabR (H : Hp) (xs : List NEnt) (es : List (Key × TV)) : Prop := Paired (EntOk H) xs es
theorem TabR.mono {H H' : Hp} {xs : List NEnt} {es : List (Key × TV)} (e : ∀ a ys, H a = some (.tup ys) → H' a = some (.tup ys)) (h : TabR H xs es) : TabR H' xs es :=
  Paired.mapP h fun _ _ q => ⟨q.1, q.2.1.mono e, let ⟨p, h1, h2⟩ := q.2.2; ⟨p, h1, e _ _ h2⟩⟩
theorem TabR.len {H : Hp} {xs : List NEnt} {es : List (Key × TV)} (h : TabR H xs es) : xs.length = es.length := Paired.length h
theorem TabR.snoc {H : Hp} {x : NEnt} {e : Key × TV} (r : EntOk H x e) : ∀ {xs : List NEnt} {es : List (Key × TV)}, TabR H xs es → TabR H (xs ++ [x]) (es ++ [e])
  | [], [], _ => .cons r .nil
  | [], _ :: _, h => by cases h
  | _ :: _, [], h => by cases h
  | _ :: _, _ :: _, h => by
    cases h with
    | cons a b => exact .cons a (TabR.snoc r b)
theorem TabR.keys {H : Hp} : ∀ {xs : List NEnt} {es : List (Key × TV)}, TabR H xs es → xs.map (·.1) = es.map fun e => keyN e.1
  | [], [], _ => rfl
  | [], _ :: _, h => by cases h
  | _ :: _, [], h => by cases h
  | _ :: _, _ :: _, h => by
    cases h with
    | cons a b => rw [List.map_cons, List.map_cons, TabR.keys b, a.1]
theorem TabR.mem {H : Hp} : ∀ {xs : List NEnt} {es : List (Key × TV)}, TabR H xs es → ∀ x ∈ xs, ∃ e ∈ es, EntOk H x e
  | [], _, _, x, m => by cases m
  | _ :: _, [], h, _, _ => by cases h
  | _ :: _, _ :: _, h, x, m => by
    cases h with
    | cons a b =>
      rcases List.mem_cons.mp m with e | m
      · subst e
        exact ⟨_, List.mem_cons_self .., a⟩
      · obtain ⟨e, he, q⟩ := TabR.mem b x m
        exact ⟨e, List.mem_cons_of_mem _ he, q⟩
theorem TabR.nok {H : Hp} {xs : List NEnt} {es : List (Key × TV)} (h : TabR H xs es) (nd : (es.map (·.1)).Nodup) : NOk H xs := by
  refine ⟨fun x hx => ?_, ?_⟩
  · obtain ⟨e, _, q1, q2, _⟩ := h.mem x hx
    rw [q1]
    exact ⟨q2, depth_key _⟩
  · rw [h.keys]
    have e : (es.map fun e => keyN e.1) = (es.map (·.1)).map keyN := by rw [List.map_map]; rfl
    rw [e, List.Nodup, List.pairwise_map]
    exact nd.imp fun n z => n (keyN_inj z)
theorem TabR.look {H : Hp} (k : Key) : ∀ {xs : List NEnt} {es : List (Key × TV)}, TabR H xs es → (look es k = none ∧ atN xs (keyN k) = none) ∨ ∃ v p, look es k = some v ∧ atN xs (keyN k) = some (.ref p) ∧ H p = some (.tup (valV v))
  | [], [], _ => .inl ⟨rfl, rfl⟩
  | [], _ :: _, h => by cases h
  | _ :: _, [], h => by cases h
  | x :: xs, e :: es, h => by
    cases h with
    | cons a b =>
      obtain ⟨a1, a2, p, a3, a4⟩ := a
      by_cases c : e.1 = k
      · refine .inr ⟨e.2, p, ?_, ?_, a4⟩
        · unfold RV.look
          rw [List.find?_cons_of_pos (by simpa using c)]
          rfl
        · unfold atN
          rw [if_pos (by rw [a1, c]), a3]
      · have e1 : RV.look (e :: es) k = RV.look es k := by
          unfold RV.look
          rw [List.find?_cons_of_neg (by simpa using c)]
        have e2 : atN (x :: xs) (keyN k) = atN xs (keyN k) := by
          show (if x.1 = keyN k then some x.2.2 else atN xs (keyN k)) = _
          rw [if_neg (fun z => c (keyN_inj (a1.symm.trans z)))]
        rw [e1, e2]
        exact TabR.look k b
/-- the table at t -/
def TabAt (P : Program) (w : World) (H : Hp) (t : Addr) (es : List (Key × TV)) : Prop := ∃ xs, H t = some (DN P w t xs) ∧ TabR H xs es ∧ (es.map (·.1)).Nodup
theorem TabAt.ex {P : Program} {w : World} {H H' : Hp} {t : Addr} {es : List (Key × TV)} (e : Ex H H') (h : TabAt P w H t es) : TabAt P w H' t es := by
  obtain ⟨xs, h1, h2, h3⟩ := h
  exact ⟨xs, e _ _ h1, h2.mono fun a ys q => e _ _ q, h3⟩
theorem inV_ints (n : Int) : ∀ ns : List Int, inV (.int n) (ns.map V.int) = decide (n ∈ ns)
  | [] => by simp [inV]
  | m :: r => by
    have ih := inV_ints n r
    show (eqV (.int m) (.int n) || inV (.int n) (r.map V.int)) = _
    rw [ih]
    have e : eqV (.int m) (.int n) = decide (m = n) := rfl
    rw [e]
    by_cases c : m = n
    · subst c; simp
    · simp [c, Ne.symm c]
/-- the stops that are not begun -/
def restOf (many : Nat) (ns : List Int) : List Int := ((List.range many).map fun i : Nat => (i : Int)).filter fun n => !decide (n ∈ ns)
theorem flat_ints : ∀ ns : List Int, (ns.map V.int).all flatV = true
  | [] => rfl
  | _ :: r => flat_ints r
theorem none_of_ex {H H' : Hp} {p : Addr} (e : Ex H H') (h : H' p = none) : H p = none := by
  cases z : H p with
  | none => rfl
  | some o => rw [e p o z] at h; cases h
theorem flat_prefix {cs : List (List Int)} {j k : Nat} {d : List Int} {l : Int} (hj : cs[j]? = some d) (hk : d[k]? = some l) : ∃ post, cs.flatMap keysD = ((cs.take j).flatMap keysD ++ (d.take k).map (fun x => (d, x)) ++ [(d, l)]) ++ post := by
  obtain ⟨h1, h2⟩ := List.getElem?_eq_some_iff.mp hj
  obtain ⟨g1, g2⟩ := List.getElem?_eq_some_iff.mp hk
  have e1 : cs = cs.take j ++ d :: cs.drop (j + 1) := by
    rw [← h2, ← List.drop_eq_getElem_cons h1, List.take_append_drop]
  have e2 : d = d.take k ++ l :: d.drop (k + 1) := by
    rw [← g2, ← List.drop_eq_getElem_cons g1, List.take_append_drop]
  refine ⟨(d.drop (k + 1)).map (fun x => (d, x)) ++ (cs.drop (j + 1)).flatMap keysD, ?_⟩
  have e3 : keysD d = (d.take k).map (fun x => (d, x)) ++ (d, l) :: (d.drop (k + 1)).map (fun x => (d, x)) := by
    have := congrArg (List.map fun x => (d, x)) e2
    rw [List.map_append, List.map_cons] at this
    exact this
  calc cs.flatMap keysD = (cs.take j ++ d :: cs.drop (j + 1)).flatMap keysD := by rw [← e1]
    _ = _ := by
      rw [List.flatMap_append, List.flatMap_cons, e3]
      simp [List.append_assoc]
section
variable (go : Int → Int → Int → Option Int) (pl : Int → Int) (p0 t0 : Int)
theorem ents_keys (ks : List Key) : (entsOf go pl p0 t0 ks).map (·.1) = ks.filter fun k => (cell go pl p0 t0 k.1 k.2).isSome := by
  induction ks with
  | nil => rfl
  | cons k r ih =>
    unfold entsOf at ih ⊢
    rw [List.filterMap_cons]
    unfold entOf at ih ⊢
    cases e : cell go pl p0 t0 k.1 k.2 with
    | none => simp only [Option.map_none]; rw [ih, List.filter_cons_of_neg (by simp [e])]
    | some v => simp only [Option.map_some]; rw [List.map_cons, ih, List.filter_cons_of_pos (by simp [e])]
theorem ents_nodup {ks : List Key} (nd : ks.Nodup) : ((entsOf go pl p0 t0 ks).map (·.1)).Nodup := by
  rw [ents_keys]
  exact nd.filter _
theorem ents_snoc (ks : List Key) (k : Key) : entsOf go pl p0 t0 (ks ++ [k]) = entsOf go pl p0 t0 ks ++ (match cell go pl p0 t0 k.1 k.2 with | none => [] | some v => [(k, v)]) := by
  unfold entsOf
  rw [List.filterMap_append]
  congr 1
  unfold entOf
  cases e : cell go pl p0 t0 k.1 k.2 <;> simp [e]
theorem ways_congr {f g : Int → Option TV} {others : List Int} (h : ∀ n ∈ others, f n = g n) : waysOf pl f others = waysOf pl g others := by
  unfold waysOf
  induction others with
  | nil => rfl
  | cons n r ih =>
    rw [List.filterMap_cons, List.filterMap_cons, h n (List.mem_cons_self ..), ih fun m hm => h m (List.mem_cons_of_mem _ hm)]
theorem others_sub {rest done : List Int} {last : Int} (h : done.Sublist rest) : (othersOf done last).Sublist rest := (List.filter_sublist).trans h
/-- what the loop's step has of its own -/
theorem cell_step {rest done : List Int} {last : Int} {i : Nat} {ks : List Key} (ndr : rest.Nodup) (sub : done.Sublist rest) (len : done.length = i + 1) (m : last ∈ done) (has : ∀ k ∈ keysUpTo rest i, k ∈ ks) :
    early go (if othersOf done last = [] then [(none, p0, t0)] else waysOf pl (fun n => look (entsOf go pl p0 t0 ks) (othersOf done last, n)) (othersOf done last)) last = cell go pl p0 t0 done last := by
  have nd := sub.nodup ndr
  rw [cell_eq go pl p0 t0 nd m]
  congr 1
  by_cases c : othersOf done last = []
  · rw [if_pos c, if_pos c]
  · rw [if_neg c, if_neg c]
    refine ways_congr pl fun n hn => ?_
    rw [look_ents, if_pos]
    refine has _ (mem_keysUpTo.mpr ⟨others_sub sub, ?_, hn⟩)
    have := others_len nd m
    show (othersOf done last).length ≤ i
    omega
end
theorem rest_nodup (many : Nat) (ns : List Int) : (restOf many ns).Nodup := by
  unfold restOf
  refine List.Pairwise.filter _ ?_
  rw [List.pairwise_map]
  exact List.nodup_range.imp fun h z => h (by omega)
theorem rest_mem {many : Nat} {ns : List Int} {n : Int} : n ∈ restOf many ns ↔ (0 ≤ n ∧ n < many) ∧ n ∉ ns := by
  unfold restOf
  simp only [List.mem_filter, List.mem_map, List.mem_range, Bool.not_eq_true', decide_eq_false_iff_not]
  constructor
  · rintro ⟨⟨i, hi, rfl⟩, h⟩
    exact ⟨⟨by omega, by omega⟩, h⟩
  · rintro ⟨⟨h1, h2⟩, h⟩
    exact ⟨⟨n.toNat, by omega, by omega⟩, h⟩
theorem rest_len (many : Nat) (ns : List Int) : (restOf many ns).length ≤ many := by
  unfold restOf
  refine Nat.le_trans (List.length_filter_le _ _) ?_
  rw [List.length_map, List.length_range]
  exact Nat.le_refl _
theorem tup_at_dn {P : Program} {w : World} {H : Hp} {t : Addr} {xs : List NEnt} {o : HO} (ht : H t = some (DN P w t xs)) : ∀ a zs, H a = some (.tup zs) → upd H t o a = some (.tup zs) := fun a zs q => by
  rw [upd_ne (ne_of q ht (by intro z; cases z))]
  exact q
theorem combos_len {α : Type} : ∀ (r : Nat) (xs : List α), (combos r xs).length ≤ 2 ^ xs.length
  | 0, xs => by
    rw [combos.eq_def]
    exact Nat.one_le_two_pow
  | _ + 1, [] => by simp [combos]
  | r + 1, x :: xs => by
    have h1 := combos_len r xs
    have h2 := combos_len (r + 1) xs
    simp only [combos, List.length_append, List.length_map, List.length_cons, Nat.pow_succ]
    omega
theorem keysR_len (rest : List Int) (r : Nat) : (keysR rest r).length ≤ 2 ^ rest.length * r := by
  unfold keysR
  have gen : ∀ cs : List (List Int), (∀ d ∈ cs, d.length = r) → (cs.flatMap keysD).length ≤ cs.length * r := by
    intro cs
    induction cs with
    | nil => intro _; simp
    | cons d t ih =>
      intro h
      rw [List.flatMap_cons, List.length_append, List.length_cons, Nat.succ_mul]
      have e : (keysD d).length = r := by unfold keysD; rw [List.length_map]; exact h d (List.mem_cons_self ..)
      have := ih fun x hx => h x (List.mem_cons_of_mem _ hx)
      omega
  exact Nat.le_trans (gen _ fun d hd => (mem_combos.mp hd).2) (Nat.mul_le_mul_right _ (combos_len r rest))
theorem keysUpTo_len {rest : List Int} (h7 : rest.length ≤ 7) : ∀ n, n ≤ 7 → (keysUpTo rest n).length ≤ n * 896
  | 0, _ => by simp [keysUpTo]
  | n + 1, hn => by
    have ih := keysUpTo_len h7 n (by omega)
    have h1 := keysR_len rest (n + 1)
    have h2 : 2 ^ rest.length ≤ 128 := Nat.pow_le_pow_right (by decide) h7
    have h3 : 2 ^ rest.length * (n + 1) ≤ 128 * 7 := Nat.mul_le_mul h2 hn
    rw [keysUpTo, List.length_append, Nat.succ_mul]
    omega
/-! ### a locked dict's heap -/
def Lk (t : Addr) (od : Obj) (u : HO) (G : Hp) : Hp := upd G t (.frz od u)
theorem lk_un {t : Addr} {od : Obj} {u : HO} {G : Hp} (h : G t = some u) : upd (Lk t od u G) t u = G := by
  funext b
  by_cases c : b = t
  · subst c; rw [upd_same, h]
  · rw [upd_ne c]; exact upd_ne c
theorem lk_ex {t : Addr} {od : Obj} {u : HO} {G H' : Hp} (e : Ex (Lk t od u G) H') (h : G t = some u) : ∃ G', H' = Lk t od u G' ∧ Ex G G' ∧ G' t = some u := by
  refine ⟨upd H' t u, ?_, fun b o hb => ?_, upd_same⟩
  · funext b
    by_cases c : b = t
    · subst c
      show H' b = upd (upd H' b u) b (.frz od u) b
      rw [upd_same]
      exact e b _ upd_same
    · show H' b = upd (upd H' t u) t (.frz od u) b
      rw [upd_ne c, upd_ne c]
  · by_cases c : b = t
    · subst c
      rw [upd_same, ← hb, h]
    · rw [upd_ne c]
      exact e b o (by show upd G t _ b = _; rw [upd_ne c]; exact hb)
theorem lk_new {t p : Addr} {od : Obj} {u o : HO} {G : Hp} (h : Lk t od u G p = none) : ∃ n : p ≠ t, upd (Lk t od u G) p o = Lk t od u (upd G p o) ∧ G p = none := by
  have n : p ≠ t := fun c => by
    subst c
    have z : Lk p od u G p = some (.frz od u) := upd_same
    rw [h] at z
    cases z
  refine ⟨n, ?_, ?_⟩
  · funext b
    by_cases c : b = p
    · subst c
      show upd (upd G t _) b o b = upd (upd G b o) t _ b
      rw [upd_same, upd_ne n, upd_same]
    · show upd (upd G t _) p o b = upd (upd G p o) t _ b
      by_cases c2 : b = t
      · subst c2; rw [upd_ne c, upd_same, upd_same]
      · rw [upd_ne c, upd_ne c2, upd_ne c2, upd_ne c]
  · have z : upd G t (.frz od u) p = none := h
    rw [upd_ne n] at z
    exact z
theorem SqL.at_dn {P : Program} {w : World} {K : PySem.W.Frag} {H : Hp} {a t : Addr} {xs : List NEnt} {o : HO} {ys : List V} (ht : H t = some (DN P w t xs)) (h : SqL K H a ys) : SqL K (upd H t o) a ys := by
  rcases h with (h | ⟨ob, h⟩) | h
  · exact .inl (.inl (by rw [upd_ne (ne_of h ht (by intro z; cases z))]; exact h))
  · exact .inl (.inr ⟨ob, by rw [upd_ne (ne_of h ht (by intro z; cases z))]; exact h⟩)
  · exact .inr h
theorem SqT.at_dn {P : Program} {w : World} {K : PySem.W.Frag} {H : Hp} {a t : Addr} {xs : List NEnt} {o : HO} {ys : List V} (ht : H t = some (DN P w t xs)) (h : SqT K H a ys) : SqT K (upd H t o) a ys := by
  rcases h with (h | ⟨ob, h⟩) | h
  · exact .inl (.inl (by rw [upd_ne (ne_of h ht (by intro z; cases z))]; exact h))
  · exact .inl (.inr ⟨ob, by rw [upd_ne (ne_of h ht (by intro z; cases z))]; exact h⟩)
  · exact .inr h
theorem TabR.get {H : Hp} : ∀ {xs : List NEnt} {es : List (Key × TV)} {i : Nat} {x : NEnt}, TabR H xs es → xs[i]? = some x → ∃ e, es[i]? = some e ∧ EntOk H x e
  | [], _, i, _, _, e => by simp at e
  | _ :: _, [], _, _, h, _ => by cases h
  | a :: as, s :: ss, 0, x, h, e => by
    cases h with
    | cons r t =>
      simp at e
      subst e
      exact ⟨s, rfl, r⟩
  | a :: as, s :: ss, i + 1, x, h, e => by
    cases h with
    | cons r t =>
      obtain ⟨z, h1, h2⟩ := TabR.get (i := i) (x := x) t (by simpa using e)
      exact ⟨z, by simpa using h1, h2⟩
theorem look_mem {es : List (Key × TV)} (nd : (es.map (·.1)).Nodup) {e : Key × TV} (m : e ∈ es) : look es e.1 = some e.2 := by
  induction es with
  | nil => cases m
  | cons a r ih =>
    rw [List.map_cons, List.nodup_cons] at nd
    unfold look at ih ⊢
    rcases List.mem_cons.mp m with c | m
    · subst c
      rw [List.find?_cons_of_pos (by simp)]
      rfl
    · have n : a.1 ≠ e.1 := fun z => nd.1 (z ▸ List.mem_map_of_mem m)
      rw [List.find?_cons_of_neg (by simpa using n)]
      exact ih nd.2 m
section
variable {go : Int → Int → Int → Option Int} {pl : Int → Int} {p0 t0 : Int}
theorem ways_rise {f : Int → Option TV} {others : List Int} (h : others.Pairwise (· < ·)) : (waysOf pl f others).Pairwise fun x y => ∀ a c, x.1 = some a → y.1 = some c → a < c := by
  unfold waysOf
  refine List.Pairwise.filterMap (R := (· < ·)) _ ?_ h
  intro a a' lt b hb b' hb' x y hx hy
  cases e1 : f a with
  | none => rw [e1] at hb; cases hb
  | some u =>
    cases e2 : f a' with
    | none => rw [e2] at hb'; cases hb'
    | some u' =>
      rw [e1] at hb
      rw [e2] at hb'
      have h1 : (some a, pl a, u.1) = b := Option.some.inj hb
      have h2 : (some a', pl a', u'.1) = b' := Option.some.inj hb'
      subst h1 h2
      have h3 : a = x := Option.some.inj hx
      have h4 : a' = y := Option.some.inj hy
      omega
theorem mem_ways {f : Int → Option TV} {others : List Int} {w : Way} : w ∈ waysOf pl f others ↔ ∃ n u, n ∈ others ∧ f n = some u ∧ w = (some n, pl n, u.1) := by
  unfold waysOf
  rw [List.mem_filterMap]
  constructor
  · rintro ⟨n, hn, h⟩
    cases e : f n with
    | none => rw [e] at h; cases h
    | some u => rw [e] at h; exact ⟨n, u, hn, e, (Option.some.inj h).symm⟩
  · rintro ⟨n, u, hn, e, rfl⟩
    exact ⟨n, hn, by rw [e]; rfl⟩
theorem first_ways {f : Int → Option TV} {others : List Int} {last : Int} {v : TV} (h : others.Pairwise (· < ·)) (fl : FirstLeast go (waysOf pl f others) last v) :
    ∃ b u, v.2 = some b ∧ b ∈ others ∧ f b = some u ∧ go (pl b) u.1 last = some v.1 ∧ ∀ n ∈ others, n < b → ∀ u', f n = some u' → go (pl n) u'.1 last ≠ some v.1 := by
  obtain ⟨pre, w, post, e1, e2, e3, e4, e5⟩ := fl
  have wm : w ∈ waysOf pl f others := by rw [e1]; simp
  obtain ⟨b, u, hb, fb, rfl⟩ := mem_ways.mp wm
  refine ⟨b, u, e3.symm, hb, fb, e2, fun n hn lt u' fn g => ?_⟩
  have nm : ((some n, pl n, u'.1) : Way) ∈ waysOf pl f others := mem_ways.mpr ⟨n, u', hn, fn, rfl⟩
  have rise := ways_rise (pl := pl) (f := f) h
  rw [e1] at nm rise
  rcases List.mem_append.mp nm with m | m
  · have := e4 _ m _ g
    omega
  rcases List.mem_cons.mp m with m | m
  · have : n = b := Option.some.inj (Prod.mk.inj m).1
    omega
  · obtain ⟨_, r2, _⟩ := List.pairwise_append.mp rise
    have := (List.pairwise_cons.mp r2).1 _ m b n rfl rfl
    omega
theorem mem_ents {ks : List Key} {en : Key × TV} : en ∈ entsOf go pl p0 t0 ks ↔ en.1 ∈ ks ∧ cell go pl p0 t0 en.1.1 en.1.2 = some en.2 := by
  unfold entsOf
  rw [List.mem_filterMap]
  unfold entOf
  constructor
  · rintro ⟨k, hk, h⟩
    cases e : cell go pl p0 t0 k.1 k.2 with
    | none => rw [e] at h; cases h
    | some v =>
      rw [e] at h
      have h2 : (k, v) = en := Option.some.inj h
      subst h2
      exact ⟨hk, e⟩
  · rintro ⟨hk, e⟩
    exact ⟨en.1, hk, by rw [e]; rfl⟩
theorem look_all {ls : List Int} {d : List Int} {l : Int} (sub : d.Sublist ls) (m : l ∈ d) : look (entsOf go pl p0 t0 (keysAll ls)) (d, l) = cell go pl p0 t0 d l := by
  rw [look_ents, if_pos (mem_keysAll.mpr ⟨sub, m⟩)]
/-- what an entry of the table is: alone behind the begun order -/
theorem ent_one {done : List Int} {last : Int} {v : TV} (nd : done.Nodup) (m : last ∈ done) (c : cell go pl p0 t0 done last = some v) (o : othersOf done last = []) : v.2 = none ∧ go p0 t0 last = some v.1 := by
  rw [cell_eq go pl p0 t0 nd m, if_pos o] at c
  obtain ⟨pre, w, post, e1, e2, e3, _, _⟩ := early_some go c
  cases pre with
  | nil =>
    have e := (List.cons.inj e1).1
    subst e
    exact ⟨e3.symm, e2⟩
  | cons x r =>
    have e := (List.cons.inj e1).2
    cases r <;> cases e
theorem ent_more {done : List Int} {last : Int} {v : TV} (ri : done.Pairwise (· < ·)) (m : last ∈ done) (c : cell go pl p0 t0 done last = some v) (o : othersOf done last ≠ []) :
    ∃ b u, v.2 = some b ∧ b ∈ othersOf done last ∧ cell go pl p0 t0 (othersOf done last) b = some u ∧ go (pl b) u.1 last = some v.1 ∧ ∀ n ∈ othersOf done last, n < b → ∀ u', cell go pl p0 t0 (othersOf done last) n = some u' → go (pl n) u'.1 last ≠ some v.1 := by
  have nd : done.Nodup := ri.imp fun h => by omega
  rw [cell_eq go pl p0 t0 nd m, if_neg o] at c
  exact first_ways (ri.filter _) (early_some go c)
end
/-- the table at t, locked or not -/
def TabRd (P : Program) (w : World) (H : Hp) (t : Addr) (es : List (Key × TV)) : Prop := ∃ xs, Rd H t (DN P w t xs) ∧ TabR H xs es ∧ (es.map (·.1)).Nodup
theorem TabRd.ex {P : Program} {w : World} {H H' : Hp} {t : Addr} {es : List (Key × TV)} (e : Ex H H') (h : TabRd P w H t es) : TabRd P w H' t es := by
  obtain ⟨xs, h1, h2, h3⟩ := h
  refine ⟨xs, ?_, h2.mono fun a ys q => e _ _ q, h3⟩
  rcases h1 with h1 | ⟨ob, h1⟩
  · exact .inl (e _ _ h1)
  · exact .inr ⟨ob, e _ _ h1⟩
theorem TabAt.rd {P : Program} {w : World} {H : Hp} {t : Addr} {es : List (Key × TV)} (h : TabAt P w H t es) : TabRd P w H t es := let ⟨xs, h1, h2, h3⟩ := h; ⟨xs, .inl h1, h2, h3⟩
theorem rest_rise (many : Nat) (ns : List Int) : (restOf many ns).Pairwise (· < ·) := by
  unfold restOf
  refine List.Pairwise.filter _ ?_
  rw [List.pairwise_map]
  exact List.pairwise_lt_range.imp fun h => by omega
def base7 : List Int := (List.range 7).map fun i : Nat => (i : Int)
theorem rest_base {many : Nat} {ns : List Int} (h : many ≤ 7) : (restOf many ns).Sublist base7 := by
  unfold restOf base7
  exact List.filter_sublist.trans ((List.range_sublist.mpr h).map _)
theorem cell_single (go : Int → Int → Int → Option Int) (pl : Int → Int) (p0 t0 n : Int) : cell go pl p0 t0 [n] n = (go p0 t0 n).map fun x => (x, none) := by
  have o : othersOf [n] n = [] := by simp [othersOf]
  rw [cell_eq go pl p0 t0 (by simp) (by simp), if_pos o]
  unfold early
  rw [List.foldl_cons, List.foldl_nil]
  unfold stepE
  cases go p0 t0 n <;> rfl
def optD : Option Int → PyData
  | none => .none
  | some n => .int n
def tvD (v : TV) : PyData := .tuple [.int v.1, optD v.2]
theorem opt_dp {K : PySem.W.Frag} {H : Hp} : ∀ o : Option Int, Dp K H (optV o) (optD o)
  | none => .non
  | some n => .int n
theorem tv_dp {K : PySem.W.Frag} {H : Hp} {p : Addr} {v : TV} (h : H p = some (.tup (valV v))) : Dp K H (.ref p) (tvD v) := .tup (SqT.of h) (.cons (.int _) (.cons (opt_dp _) .nil))
theorem shaped_tv (v : TV) : SeqAt.shaped (tvD v) = true := by
  obtain ⟨a, _ | b⟩ := v <;> simp [SeqAt.shaped, tvD, optD, PyData.canLay0, PyData.canLayAll0, PyData.depth, PyData.depthAll]
theorem tab_same {K : PySem.W.Frag} {H : Hp} {xa xb : List NEnt} {es : List (Key × TV)} (ha : TabR H xa es) (hb : TabR H xb es) (nd : (es.map (·.1)).Nodup) : ∀ e ∈ xa, ∃ v d, atN xb e.1 = some v ∧ Dp K H e.2.2 d ∧ Dp K H v d ∧ SeqAt.shaped d = true := by
  intro e he
  obtain ⟨en, hen, q1, _, p, q3, q4⟩ := ha.mem e he
  rcases hb.look en.1 with ⟨z1, _⟩ | ⟨v, p2, z1, z2, z3⟩
  · rw [look_mem nd hen] at z1
    cases z1
  · rw [look_mem nd hen] at z1
    obtain rfl := Option.some.inj z1
    exact ⟨.ref p2, tvD en.2, by rw [q1]; exact z2, by rw [q3]; exact tv_dp q4, tv_dp z3, shaped_tv _⟩
theorem tab_ok {ring : Bool} {len p0 t0 : Int} {go : Int → Int → Int → Option Int} {pl : Int → Int} {ls : List Int} (ri : ls.Pairwise (· < ·)) (h7 : ls.length ≤ 7) : ∀ e ∈ entsOf go pl p0 t0 (keysAll ls), (∀ n ∈ e.1.1, n ∈ ls) ∧ e.1.1.Pairwise (· < ·) ∧ e.1.2 ∈ e.1.1 ∧ e.1.1.length ≤ 7 := by
  intro e he
  obtain ⟨km, _⟩ := mem_ents.mp he
  obtain ⟨sub, lm⟩ := mem_keysAll.mp km
  exact ⟨fun n hn => sub.subset hn, ri.sublist sub, lm, Nat.le_trans sub.length_le h7⟩
theorem rest_step (i : Nat) (ns : List Int) : restOf (i + 1) ns = restOf i ns ++ (if decide ((i : Int) ∈ ns) = true then [] else [(i : Int)]) := by
  unfold restOf
  rw [List.range_succ, List.map_append, List.filter_append]
  congr 1
  by_cases c : (i : Int) ∈ ns <;> simp [c]

/-! ### sorted(t), t a tuple of numbers -/
section
variable {P : Program} {w : World} {A : Around} {E : Value → Shared → Prop} {s : Shared}
theorem sorted_tup {a : Addr} {its : Array Value} {ns : List Int} {Q : Value → Shared → Prop} (tup : s.heap.IsTuple a its) (hI : IntsAre its.toList ns) (h64 : its.size < 64)
    (hQ : ∀ (h1 h2 : Heap) p (out : Array Value) (c : Nat) (ns' : List Int), (∀ b o, s.heap.get? b = some o → h1.get? b = some o) → h1.objs.size ≤ p → (∀ b o, h1.get? b = some o → h2.get? b = some o) →
      h2.get? p = some (seqObj "list" out c) → IntsAre out.toList ns' → ns'.Perm ns → ns'.Pairwise (· ≤ ·) → Q (.ref p) { s with heap := h2 }) :
    wpAny (model P w) A (call (.builtin "sorted") [.ref a]) Q E s := by
  obtain ⟨o, ho, hc, n, hd⟩ := tup
  refine Calls.call_function_entry kind_sorted plain_sorted entry_sorted (args_sorted1 _) ?_
  unfold Builtin.«sorted»
  refine wpAny_bind (m := checkCount "sorted" 1 1 _) (wpAny_pure ?_)
  refine wpAny_bind (wpAny_collect_seq (hsz := by rw [sizeLine_eq]; omega) a (.inr rfl) ho hc hd fun h1 k1 => ?_)
  refine wpAny_bind (wpAny_newList ?_ (by rw [Array.length_toList, sizeLine_eq]; omega))
  have hoL : (h1.push (seqObj "list" its.toList.toArray 0)).get? h1.objs.size = some (seqObj "list" its.toList.toArray 0) := Heap.get?_push_size _ rfl
  refine wpAny_bind (wpAny_holding (wpAny_call_entry slot_list_sort ⟨_, hoL, rfl⟩ entry_list_sort (list_sort_tree hoL hI (by rw [Array.length_toList]; exact h64) fun out ns' a1 a2 a3 => ⟨_, rfl, ?_⟩) (args_list_sort _)))
  obtain ⟨c, hc⟩ := sortedHeap_at (vs := its.toList) (out := out) hoL
  refine wpAny_pure ⟨_, rfl, hQ h1 _ h1.objs.size out c ns' k1 (Nat.le_refl _) (fun b u q => ?_) hc a1 a2 a3⟩
  have hlt := Heap.lt_size q
  show (sortedHeap (h1.push (seqObj "list" its.toList.toArray 0)) h1.objs.size its.toList out).get? b = some u
  rw [sortedHeap_old (Nat.ne_of_lt hlt) (by rw [size_push']; exact Nat.lt_succ_of_lt hlt)]
  exact Heap.get?_push_of_some _ q
end
section
variable {X : Cx}
def rSortedT (K : PySem.W.Frag) : List V → Hp → VK → Prop := fun vs H Q => ∃ (a : Addr) (ns : List Int), vs = [V.ref a] ∧ SqT K H a (ns.map V.int) ∧ ns.length < 64 ∧
  ∀ (ns' : List Int) (p : Addr), ns'.Perm ns → ns'.Pairwise (· ≤ ·) → H p = none → Q (.ref p) (upd H p (.lst (ns'.map V.int)))
theorem cr_sortedT : CallR X (.builtin "sorted") (rSortedT X.K) := by
  intro ps0 st0 σ0 H0 vs us W0 Inv0 rel asked
  obtain ⟨a, ns, rfl, sq, less, wish⟩ := asked
  obtain ⟨u, rfl, ru⟩ := vals1 rel
  obtain rfl : u = .ref a := ru
  obtain ⟨its, rv, pl, _⟩ := Inv0.tuple sq
  have long : its.length = ns.length := by rw [← rv.length]; exact List.length_map _
  refine sorted_tup pl (by simpa using ints_of rv) (by simpa using by omega) fun h1 h2 p out c ns' k1 hp k2 isL nums pm le => ?_
  have I1 : L2.Inv X ps0 σ0 H0 { st0 with heap := h1 } := Inv0.kept k1
  have free : H0 p = none := I1.hok.fresh hp
  have fits : (ns'.map V.int).length ≤ sizeLine := by rw [List.length_map, pm.length_eq, sizeLine_eq]; omega
  exact ⟨.ref p, upd H0 p (.lst (ns'.map V.int)), I1.laid (a := p) (t' := st0.toks) k2 hp ⟨fits, out.toList, c, vals_of_ints nums, by simpa using isL⟩, rfl, wish ns' p pm le free⟩
end

/-- where and when the van is behind an order; none: missed -/
def behindOf (ring : Bool) (len : Int) (sts : List Stp) : Int → Int → List Int → Option (Int × Int)
  | pl, t, [] => some (pl, t)
  | pl, t, n :: r => (goOn ring len pl t (stAt sts n)).bind fun x => behindOf ring len sts (stAt sts n).1 x.2.2 r
theorem behind_none {ring : Bool} {len : Int} {sts : List Stp} : ∀ {ns : List Int} {pl t : Int}, rowsOf ring len sts pl t ns = none → behindOf ring len sts pl t ns = none
  | [], _, _, h => by rw [rowsOf] at h; cases h
  | n :: r, pl, t, h => by
    rw [rows_go] at h
    rw [behindOf]
    cases e : goOn ring len pl t (stAt sts n) with
    | none => rfl
    | some x =>
      rw [e] at h
      have h2 : (rowsOf ring len sts (stAt sts n).1 x.2.2 r).map (fun rs => x :: rs) = none := h
      rw [Option.map_eq_none_iff] at h2
      exact behind_none h2
theorem behind_last {ring : Bool} {len : Int} {sts : List Stp} {n : Int} {x : Row} : ∀ {ns : List Int} {pl t : Int} {rs : List Row}, rowsOf ring len sts pl t (ns ++ [n]) = some (rs ++ [x]) → behindOf ring len sts pl t (ns ++ [n]) = some ((stAt sts n).1, x.2.2)
  | [], pl, t, rs, h => by
    have h1 : rowsOf ring len sts pl t (n :: []) = some (rs ++ [x]) := h
    rw [rows_go] at h1
    show behindOf ring len sts pl t (n :: []) = _
    rw [behindOf]
    cases e : goOn ring len pl t (stAt sts n) with
    | none => rw [e] at h1; cases h1
    | some y =>
      rw [e] at h1
      have h2 : some [y] = some (rs ++ [x]) := h1
      have h3 := Option.some.inj h2
      cases rs with
      | nil =>
        have h4 : y = x := (List.cons.inj h3).1
        rw [h4]
        rfl
      | cons z zs =>
        have h4 := (List.cons.inj h3).2
        cases zs <;> cases h4
  | m :: ns, pl, t, rs, h => by
    have h1 : rowsOf ring len sts pl t (m :: (ns ++ [n])) = some (rs ++ [x]) := h
    rw [rows_go] at h1
    show behindOf ring len sts pl t (m :: (ns ++ [n])) = _
    rw [behindOf]
    cases e : goOn ring len pl t (stAt sts m) with
    | none => rw [e] at h1; cases h1
    | some y =>
      rw [e] at h1
      have h2 : (rowsOf ring len sts (stAt sts m).1 y.2.2 (ns ++ [n])).map (fun rs => y :: rs) = some (rs ++ [x]) := h1
      cases e2 : rowsOf ring len sts (stAt sts m).1 y.2.2 (ns ++ [n]) with
      | none => rw [e2] at h2; cases h2
      | some zs =>
        rw [e2] at h2
        have h3 : y :: zs = rs ++ [x] := Option.some.inj h2
        have lz := rows_len e2
        rw [List.length_append, List.length_singleton] at lz
        cases rs with
        | nil =>
          have h4 := (List.cons.inj h3).2
          rw [h4] at lz
          cases lz
        | cons u us =>
          have h4 := (List.cons.inj h3).2
          rw [h4] at e2
          exact behind_last e2
def wayV (x : Way) : List V := [optV x.1, .int x.2.1, .int x.2.2]
def WaysR (H : Hp) (qs : List Addr) (ws : List Way) : Prop := Paired (fun p x => H p = some (.tup (wayV x))) qs ws
theorem WaysR.mono {H H' : Hp} {qs : List Addr} {ws : List Way} (e : ∀ a ys, H a = some (.tup ys) → H' a = some (.tup ys)) (h : WaysR H qs ws) : WaysR H' qs ws := Paired.mapP h fun _ _ q => e _ _ q
theorem WaysR.len {H : Hp} {qs : List Addr} {ws : List Way} (h : WaysR H qs ws) : qs.length = ws.length := Paired.length h
theorem WaysR.snoc {H : Hp} {p : Addr} {x : Way} (hs : H p = some (.tup (wayV x))) : ∀ {qs : List Addr} {ws : List Way}, WaysR H qs ws → WaysR H (qs ++ [p]) (ws ++ [x])
  | [], [], _ => .cons hs .nil
  | [], _ :: _, h => by cases h
  | _ :: _, [], h => by cases h
  | _ :: _, _ :: _, h => by
    cases h with
    | cons r t => exact .cons r (WaysR.snoc hs t)
theorem WaysR.get {H : Hp} : ∀ {qs : List Addr} {ws : List Way} {i : Nat} {p : Addr}, WaysR H qs ws → qs[i]? = some p → ∃ x, ws[i]? = some x ∧ H p = some (.tup (wayV x))
  | [], _, i, p, _, e => by simp at e
  | _ :: _, [], _, _, h, _ => by cases h
  | a :: as, s :: ss, 0, p, h, e => by
    cases h with
    | cons r t =>
      simp at e
      subst e
      exact ⟨s, rfl, r⟩
  | a :: as, s :: ss, i + 1, p, h, e => by
    cases h with
    | cons r t =>
      obtain ⟨z, h1, h2⟩ := WaysR.get (i := i) (p := p) t (by simpa using e)
      exact ⟨z, by simpa using h1, h2⟩
theorem tup_at_lst {H : Hp} {p : Addr} {ys : List V} {o : HO} (hp : H p = some (.lst ys)) : ∀ a zs, H a = some (.tup zs) → upd H p o a = some (.tup zs) := fun a zs q => by
  rw [upd_ne (ne_of q hp (by intro z; cases z))]
  exact q
theorem waysOf_snoc {pl : Int → Int} {f : Int → Option TV} {a : List Int} {n : Int} : waysOf pl f (a ++ [n]) = waysOf pl f a ++ (match f n with | none => [] | some v => [(some n, pl n, v.1)]) := by
  unfold waysOf
  rw [List.filterMap_append]
  congr 1
  cases e : f n <;> simp [e]
/-- when the van leaves a stop, come from a place -/
def goTime (ring : Bool) (len : Int) (sts : List Stp) (pl t n : Int) : Option Int := (goOn ring len pl t (stAt sts n)).map fun x => x.2.2
def FoundR (H H' : Hp) (f : Option TV) (x : V) : Prop := (f = none ∧ x = .non) ∨ ∃ v p, f = some v ∧ x = .ref p ∧ H p = none ∧ H' p = some (.tup (valV v))
theorem FoundR.ex {H H' H2 : Hp} {f : Option TV} {x : V} (e : Ex H' H2) (h : FoundR H H' f x) : FoundR H H2 f x := by
  rcases h with h | ⟨v, p, h1, h2, h3, h4⟩
  · exact .inl h
  · exact .inr ⟨v, p, h1, h2, h3, e _ _ h4⟩
/-- the table behind an order, as data -/
def tabOf (ring : Bool) (len : Int) (sts : List Stp) (p0 t0 : Int) (ks : List Key) : List (Key × TV) := entsOf (goTime ring len sts) (fun n => (stAt sts n).1) p0 t0 ks
def tableOf (ring : Bool) (len : Int) (sts : List Stp) (home start : Int) (ns : List Int) : List (Key × TV) := match behindOf ring len sts home start ns with
  | none => []
  | some z => tabOf ring len sts z.1 z.2 (keysAll (restOf sts.length ns))
def minL : List Int → Option Int
  | [] => none
  | x :: r => match minL r with
    | none => some x
    | some y => some (if y < x then y else x)
theorem minL_is : ∀ {xs : List Int} {m : Int}, m ∈ xs → (∀ k ∈ xs, m ≤ k) → minL xs = some m
  | [], _, h, _ => by cases h
  | x :: r, m, h, le => by
    unfold minL
    cases e : minL r with
    | none =>
      cases r with
      | nil => rw [List.mem_singleton.mp h]
      | cons y s =>
        unfold minL at e
        cases e2 : minL s <;> rw [e2] at e <;> cases e
    | some y =>
      have hy : y ∈ r ∧ ∀ k ∈ r, y ≤ k := minL_mem e
      show some (if y < x then y else x) = some m
      have h1 := le y (List.mem_cons_of_mem _ hy.1)
      have h2 := le x (List.mem_cons_self ..)
      rcases List.mem_cons.mp h with h | h
      · subst h
        rw [if_neg (by omega)]
      · have h3 := hy.2 m h
        by_cases c : y < x
        · rw [if_pos c]; congr 1; omega
        · rw [if_neg c]; congr 1; omega
where
  minL_mem : ∀ {xs : List Int} {y : Int}, minL xs = some y → y ∈ xs ∧ ∀ k ∈ xs, y ≤ k
    | [], _, h => by cases h
    | x :: r, y, h => by
      unfold minL at h
      cases e : minL r with
      | none =>
        rw [e] at h
        have h2 : some x = some y := h
        obtain rfl := Option.some.inj h2
        cases r with
        | nil => exact ⟨List.mem_cons_self .., fun k hk => by rw [List.mem_singleton.mp hk]; exact Int.le_refl _⟩
        | cons z s =>
          unfold minL at e
          cases e2 : minL s <;> rw [e2] at e <;> cases e
      | some z =>
        rw [e] at h
        obtain ⟨m1, m2⟩ := minL_mem e
        have h2 : some (if z < x then z else x) = some y := h
        obtain rfl := Option.some.inj h2
        by_cases c : z < x
        · rw [if_pos c]
          refine ⟨List.mem_cons_of_mem _ m1, fun k hk => ?_⟩
          rcases List.mem_cons.mp hk with rfl | hk
          · omega
          · exact m2 k hk
        · rw [if_neg c]
          refine ⟨List.mem_cons_self .., fun k hk => ?_⟩
          rcases List.mem_cons.mp hk with rfl | hk
          · omega
          · have := m2 k hk
            omega
/-- when the van is home behind all -/
def homesOf (ring : Bool) (len home : Int) (sts : List Stp) (es : List (Key × TV)) (rest : List Int) : List Int := (waysOf (fun n => (stAt sts n).1) (fun n => look es (rest, n)) rest).map fun w => w.2.2 + apartOf ring len w.2.1 home
def leastOf (ring : Bool) (len : Int) (sts : List Stp) (home start : Int) (ns : List Int) : Option Int := if restOf sts.length ns = [] then (behindOf ring len sts home start ns).map fun z => z.2 + apartOf ring len z.1 home
  else minL (homesOf ring len home sts (tableOf ring len sts home start ns) (restOf sts.length ns))
theorem minL_none {xs : List Int} : minL xs = none ↔ xs = [] := by
  cases xs with
  | nil => simp [minL]
  | cons x r =>
    unfold minL
    cases minL r <;> simp
theorem minL_congr {a b : List Int} (h : ∀ x, x ∈ a ↔ x ∈ b) : minL a = minL b := by
  cases e : minL a with
  | none =>
    have ea := minL_none.mp e
    subst ea
    have eb : b = [] := List.eq_nil_iff_forall_not_mem.mpr fun x hx => by have := (h x).mpr hx; cases this
    rw [eb]
    rfl
  | some m =>
    obtain ⟨m1, m2⟩ := minL_is.minL_mem e
    exact (minL_is ((h m).mp m1) fun k hk => m2 k ((h k).mpr hk)).symm
theorem rest_perm {ns : List Int} {m : Nat} (ok : ordOk ns m) : (ns ++ restOf m ns).Perm ((List.range m).map fun i : Nat => (i : Int)) := by
  have nd2 : ((List.range m).map fun i : Nat => (i : Int)).Nodup := by
    rw [List.Nodup, List.pairwise_map]
    exact List.nodup_range.imp fun h z => h (by omega)
  have nd1 : (ns ++ restOf m ns).Nodup := by
    rw [List.nodup_append]
    exact ⟨ok.2, rest_nodup m ns, fun a ha b hb e => (rest_mem.mp hb).2 (e ▸ ha)⟩
  refine (List.perm_ext_iff_of_nodup nd1 nd2).mpr fun x => ?_
  rw [List.mem_append, rest_mem, List.mem_map]
  constructor
  · rintro (h | ⟨h, _⟩)
    · obtain ⟨h0, h1⟩ := ok.1 x h
      exact ⟨x.toNat, List.mem_range.mpr (by omega), by omega⟩
    · exact ⟨x.toNat, List.mem_range.mpr (by omega), by omega⟩
  · rintro ⟨i, hi, rfl⟩
    have := List.mem_range.mp hi
    by_cases c : (i : Int) ∈ ns
    · exact .inl c
    · exact .inr ⟨⟨by omega, by omega⟩, c⟩
theorem rest_nil {ns : List Int} {m : Nat} (ok : ordOk ns m) : restOf m ns = [] ↔ ns.length = m := by
  have h := (rest_perm ok).length_eq
  rw [List.length_append, List.length_map, List.length_range] at h
  constructor
  · intro z
    rw [z] at h
    simpa using h
  · intro z
    exact List.eq_nil_of_length_eq_zero (by omega)
theorem homes_nil {ring : Bool} {len home : Int} {sts : List Stp} (rest : List Int) : homesOf ring len home sts [] rest = [] := by
  unfold homesOf waysOf
  have e : (rest.filterMap fun n => (look [] (rest, n)).map fun v => ((some n, (stAt sts n).1, v.1) : Way)) = [] := by
    rw [List.filterMap_eq_nil_iff]
    intro a _
    rfl
  rw [e]
  rfl
theorem least_none {ring : Bool} {len home start : Int} {sts : List Stp} {ns : List Int} (h : behindOf ring len sts home start ns = none) : leastOf ring len sts home start ns = none := by
  unfold leastOf
  rw [h]
  by_cases c : restOf sts.length ns = []
  · rw [if_pos c]; rfl
  · rw [if_neg c]
    have te : tableOf ring len sts home start ns = [] := by unfold tableOf; rw [h]
    rw [te, homes_nil]
    rfl
theorem rg_ints (many : Nat) : ∃ ls : List Int, rgV 0 (many : Int) = ls.map V.int ∧ ls.length = many := by
  refine ⟨(List.range ((many : Int) - 0).toNat).map (fun i : Nat => 0 + (i : Int)), ?_, ?_⟩
  · unfold rgV
    rw [List.map_map]
    rfl
  · rw [List.length_map, List.length_range]
    omega
/-- a list without the one at k -/
theorem cut_out {ls : List Int} {k : Nat} (h : k < ls.length) : cutV (ls.map V.int) none (some (k : Int)) ++ cutV (ls.map V.int) (some ((k : Int) + 1)) none = (ls.take k ++ ls.drop (k + 1)).map V.int ∧ (ls.take k ++ ls.drop (k + 1)).length = ls.length - 1 := by
  have hl : (ls.map V.int).length = ls.length := List.length_map _
  refine ⟨?_, ?_⟩
  · rw [cut_to (by omega)]
    have e := cut_from (xs := ls.map V.int) (k := k + 1) (by omega)
    rw [show ((k : Int) + 1) = ((k + 1 : Nat) : Int) by omega, e, List.map_append, List.map_take, List.map_drop]
  · rw [List.length_append, List.length_take, List.length_drop]
    omega
theorem cut_put {ls : List Int} {k : Nat} {v : Int} (h : k ≤ ls.length) : cutV (ls.map V.int) none (some (k : Int)) ++ [V.int v] ++ cutV (ls.map V.int) (some (k : Int)) none = (ls.take k ++ [v] ++ ls.drop k).map V.int ∧ (ls.take k ++ [v] ++ ls.drop k).length = ls.length + 1 := by
  have hl : (ls.map V.int).length = ls.length := List.length_map _
  refine ⟨?_, ?_⟩
  · rw [cut_to (by omega), cut_from (by omega)]
    simp only [List.map_append, List.map_take, List.map_drop, List.map_cons, List.map_nil]
  · rw [List.length_append, List.length_append, List.length_take, List.length_drop, List.length_singleton]
    omega
theorem cut_outI {ls : List Int} {i : Int} (h0 : 0 ≤ i) (h1 : i < ls.length) : ∃ os : List Int, cutV (ls.map V.int) none (some i) ++ cutV (ls.map V.int) (some (i + 1)) none = os.map V.int ∧ os.length = ls.length - 1 := by
  obtain ⟨k, rfl⟩ : ∃ k : Nat, i = k := ⟨i.toNat, by omega⟩
  obtain ⟨c1, c2⟩ := cut_out (ls := ls) (k := k) (by omega)
  exact ⟨_, c1, c2⟩
theorem cut_putI {ls : List Int} {i v : Int} (h0 : 0 ≤ i) (h1 : i ≤ ls.length) : ∃ os : List Int, cutV (ls.map V.int) none (some i) ++ [V.int v] ++ cutV (ls.map V.int) (some i) none = os.map V.int ∧ os.length = ls.length + 1 := by
  obtain ⟨k, rfl⟩ : ∃ k : Nat, i = k := ⟨i.toNat, by omega⟩
  obtain ⟨c1, c2⟩ := cut_put (ls := ls) (k := k) (v := v) (by omega)
  exact ⟨_, c1, c2⟩
theorem int_at {ls : List Int} {i : Int} (h0 : 0 ≤ i) (h1 : i < ls.length) : ∃ z, atI (ls.map V.int) i = some (.int z) := by
  obtain ⟨v, hv, hv2⟩ := atI_lt (xs := ls.map V.int) h0 (by rw [List.length_map]; exact h1)
  obtain ⟨z, hz, rfl⟩ := map_int_get hv2
  exact ⟨z, hv⟩
theorem stAt_mem {sts : List Stp} {n : Int} (h0 : 0 ≤ n) (h1 : n < sts.length) : stAt sts n ∈ sts := List.mem_of_getElem? (stAt_eq h0 h1)
theorem good_flt {ring : Bool} {len home start : Int} {sts : List Stp} (l1 : 1 ≤ len) (l2 : len ≤ 1000000000) (hh : onRoad ring len home) (ht : isTime start) (h7 : sts.length ≤ 7) (hg : ∀ s ∈ sts, goodStop ring len s) : dayFlt (wordOf ring) len home start sts = none := by
  have hw : decide (wordOf ring = "ring") = ring := by cases ring <;> decide +kernel
  have p1 : isRoad (wordOf ring) len := ⟨by cases ring <;> decide +kernel, l1, l2⟩
  have hs : ∀ r : List Stp, (∀ s ∈ r, goodStop ring len s) → stopsFlt ring len r = none := by
    intro r
    induction r with
    | nil => intro _; rfl
    | cons s r ih =>
      intro h
      obtain ⟨g1, g2, g3, g4, g5, g6⟩ := h s (List.mem_cons_self ..)
      have e : stopFlt ring len s = none := by
        unfold stopFlt
        rw [if_neg (fun z => z g1), if_neg (fun z => z ⟨⟨by omega, by omega⟩, ⟨by omega, by omega⟩, ⟨by omega, by omega⟩⟩), if_neg (by omega)]
      unfold stopsFlt
      rw [e]
      exact ih fun x hx => h x (List.mem_cons_of_mem _ hx)
  unfold dayFlt
  rw [hw, if_neg (fun z => z p1), if_neg (fun z => z hh), if_neg (fun z => z ht), if_neg (by omega), hs sts hg]
theorem cut_one (ts : List Int) : ∃ us : List Int, cutV (ts.map V.int) none (some (1 : Int)) = us.map V.int ∧ us.length ≤ 1 := by
  cases ts with
  | nil => exact ⟨[], by decide +kernel, by decide⟩
  | cons t r =>
    have e := cut_to (xs := (t :: r).map V.int) (k := 1) (by rw [List.length_map, List.length_cons]; omega)
    refine ⟨(t :: r).take 1, ?_, by rw [List.length_take]; omega⟩
    rw [List.map_take]
    exact e
theorem neg_at {gs : List Int} {i : Nat} (h : i < gs.length) : ∃ z, atI (gs.map V.int) (-1 - (0 + (i : Int))) = some (.int z) := by
  have hl : (gs.map V.int).length = gs.length := List.length_map _
  have hk : gs.length - 1 - i < gs.length := by omega
  refine ⟨gs[gs.length - 1 - i], ?_⟩
  have e : ixN (gs.map V.int).length (-1 - (0 + (i : Int))) = some (gs.length - 1 - i) := by
    unfold ixN
    rw [hl, if_neg (by omega), if_pos (by omega)]
    congr 1
    omega
  unfold atI
  rw [e]
  show (gs.map V.int)[gs.length - 1 - i]? = _
  rw [List.getElem?_map, List.getElem?_eq_getElem hk]
  rfl
def intsD (ns : List Int) : PyData := .list (ns.map PyData.int)
theorem ints_all {K : PySem.W.Frag} {H : Hp} : ∀ ns : List Int, DpAll K H (ns.map V.int) (ns.map PyData.int)
  | [] => .nil
  | n :: r => .cons (.int n) (ints_all r)
theorem ints_dp {K : PySem.W.Frag} {H : Hp} {o : Addr} {ns : List Int} (h : SqL K H o (ns.map V.int)) : Dp K H (.ref o) (intsD ns) := .lst h (ints_all ns)
theorem canLay_ints : ∀ ns : List Int, PyData.canLayAll0 (ns.map PyData.int) = true
  | [] => by simp [PyData.canLayAll0]
  | n :: r => by
    have ih := canLay_ints r
    simp only [List.map_cons, PyData.canLayAll0, ih, Bool.and_true]
    simp [PyData.canLay0]
theorem depth_ints : ∀ ns : List Int, PyData.depthAll (ns.map PyData.int) ≤ 2
  | [] => by simp [PyData.depthAll]
  | n :: r => by
    have ih := depth_ints r
    simp only [List.map_cons, PyData.depthAll]
    have : PyData.depth (PyData.int n) ≤ 2 := by simp [PyData.depth]
    omega
theorem shaped_ints (ns : List Int) : SeqAt.shaped (intsD ns) = true := by
  have h1 := canLay_ints ns
  have h2 := depth_ints ns
  unfold SeqAt.shaped intsD
  rw [Bool.and_eq_true]
  refine ⟨by simpa [PyData.canLay0] using h1, decide_eq_true ?_⟩
  simp only [PyData.depth]
  omega
theorem strOk_word (ring : Bool) : PyData.strOk (wordOf ring) = true := by cases ring <;> decide +kernel
def partsD (ring : Bool) (len home start : Int) : PyData := .tuple [.tuple [.str (wordOf ring), .int len], .int home, .int start]
theorem shaped_parts (ring : Bool) (len home start : Int) : SeqAt.shaped (partsD ring len home start) = true := by
  have hs := strOk_word ring
  unfold SeqAt.shaped partsD
  simp [PyData.canLay0, PyData.canLayAll0, PyData.depth, PyData.depthAll, hs]
theorem parts_dp {K : PySem.W.Frag} {H : Hp} {p r : Addr} {ring : Bool} {len home start : Int} (hp : SqT K H p [.ref r, .int home, .int start]) (hr : SqT K H r (roadV ring len)) : Dp K H (.ref p) (partsD ring len home start) := .tup hp (.cons (.tup hr (.cons (.str _) (.cons (.int _) .nil))) (.cons (.int _) (.cons (.int _) .nil)))
theorem cut_is (xs : List V) (a b : Nat) : cutV xs (some (a : Int)) (some (b : Int)) = (xs.drop (min a xs.length)).take (min b xs.length - min a xs.length) := by
  unfold cutV
  rw [HT.sIx_nat, HT.sIx_nat]
def swapL : List Int → List Int
  | x :: y :: r => y :: x :: r
  | l => l
theorem swap_cut : ∀ os : List Int, cutV (os.map V.int) (some (1 : Int)) (some (2 : Int)) ++ cutV (os.map V.int) none (some (1 : Int)) ++ cutV (os.map V.int) (some (2 : Int)) none = (swapL os).map V.int
  | [] => rfl
  | [x] => rfl
  | x :: y :: r => by
    have e1 := cut_is ((x :: y :: r).map V.int) 1 2
    have e2 := cut_to (xs := (x :: y :: r).map V.int) (k := 1) (by simp)
    have e3 := cut_from (xs := (x :: y :: r).map V.int) (k := 2) (by simp)
    have z1 : cutV ((x :: y :: r).map V.int) (some (1 : Int)) (some (2 : Int)) = [V.int y] := by
      refine e1.trans ?_
      have m1 : min 1 ((x :: y :: r).map V.int).length = 1 := by simp only [List.length_map, List.length_cons]; omega
      have m2 : min 2 ((x :: y :: r).map V.int).length = 2 := by simp only [List.length_map, List.length_cons]; omega
      rw [m1, m2]
      rfl
    have z2 : cutV ((x :: y :: r).map V.int) none (some (1 : Int)) = [V.int x] := e2.trans rfl
    have z3 : cutV ((x :: y :: r).map V.int) (some (2 : Int)) none = r.map V.int := e3.trans rfl
    rw [z1, z2, z3]
    rfl
theorem swap_perm : ∀ os : List Int, (swapL os).Perm os
  | [] => List.Perm.refl _
  | [_] => List.Perm.refl _
  | x :: y :: r => List.Perm.swap x y r
theorem ordOk_perm {a b : List Int} {m : Nat} (p : a.Perm b) (h : ordOk b m) : ordOk a m := ⟨fun x hx => h.1 x (p.subset hx), p.nodup_iff.mpr h.2⟩
theorem turn_at {gs : List Int} {i : Nat} (h : i < gs.length) : atI (gs.map V.int) (-1 - (0 + (i : Int))) = some (.int (gs.reverse.getD i 0)) := by
  have hl : (gs.map V.int).length = gs.length := List.length_map _
  have hk : gs.length - 1 - i < gs.length := by omega
  have e : ixN (gs.map V.int).length (-1 - (0 + (i : Int))) = some (gs.length - 1 - i) := by
    unfold ixN
    rw [hl, if_neg (by omega), if_pos (by omega)]
    congr 1
    omega
  unfold atI
  rw [e]
  show (gs.map V.int)[gs.length - 1 - i]? = _
  rw [List.getElem?_map, List.getElem?_eq_getElem hk, List.getD_eq_getElem?_getD, List.getElem?_reverse h, List.getElem?_eq_getElem hk]
  rfl
/-- different numbers below many, in a list -/
theorem perm_out {ls : List Int} {k : Nat} {z : Int} (h : ls[k]? = some z) : ls.Perm (z :: (ls.take k ++ ls.drop (k + 1))) := by
  obtain ⟨h1, h2⟩ := List.getElem?_eq_some_iff.mp h
  have e : ls = ls.take k ++ z :: ls.drop (k + 1) := by rw [← h2, ← List.drop_eq_getElem_cons h1, List.take_append_drop]
  have p : (ls.take k ++ z :: ls.drop (k + 1)).Perm (z :: (ls.take k ++ ls.drop (k + 1))) := List.perm_middle
  rw [← e] at p
  exact p
theorem StopsR.at_dn {P : Program} {w : World} {K : PySem.W.Frag} {H : Hp} {t : Addr} {xs : List NEnt} {o : HO} {ps : List Addr} {sts : List Stp} (ht : H t = some (DN P w t xs)) (h : StopsR K H ps sts) : StopsR K (upd H t o) ps sts := Paired.mapP h fun _ _ q => SqT.at_dn ht q
theorem rise_eq : ∀ {a b : List Int}, a.Pairwise (· < ·) → b.Pairwise (· < ·) → (∀ x, x ∈ a ↔ x ∈ b) → a = b
  | [], [], _, _, _ => rfl
  | [], y :: b, _, _, h => by have := (h y).mpr (List.mem_cons_self ..); cases this
  | x :: a, [], _, _, h => by have := (h x).mp (List.mem_cons_self ..); cases this
  | x :: a, y :: b, ha, hb, h => by
    obtain ⟨a1, a2⟩ := List.pairwise_cons.mp ha
    obtain ⟨b1, b2⟩ := List.pairwise_cons.mp hb
    have e : x = y := by
      rcases List.mem_cons.mp ((h x).mp (List.mem_cons_self ..)) with e | m
      · exact e
      · rcases List.mem_cons.mp ((h y).mpr (List.mem_cons_self ..)) with e2 | m2
        · exact e2.symm
        · have h1 := b1 x m
          have h2 := a1 y m2
          omega
    subst e
    have rest : ∀ z, z ∈ a ↔ z ∈ b := fun z => by
      constructor
      · intro m
        rcases List.mem_cons.mp ((h z).mp (List.mem_cons_of_mem _ m)) with e | m2
        · have := a1 z m
          omega
        · exact m2
      · intro m
        rcases List.mem_cons.mp ((h z).mpr (List.mem_cons_of_mem _ m)) with e | m2
        · have := b1 z m
          omega
        · exact m2
    rw [rise_eq a2 b2 rest]
theorem perm_rise {a b : List Int} (p : a.Perm b) (le : a.Pairwise (· ≤ ·)) (ri : b.Pairwise (· < ·)) : a = b := by
  have nd : a.Nodup := p.nodup_iff.mpr (ri.imp fun h => by omega)
  exact rise_eq (lt_of_le_nodup a le nd) ri fun x => p.mem_iff
/-- what the law's walk has of times home -/
def allHomes (ring : Bool) (len home : Int) (sts : List Stp) (es : List (Key × TV)) (many : Nat) : List Int := (es.filter fun e => decide (e.1.1.length = many)).map fun e => e.2.1 + apartOf ring len (stAt sts e.1.2).1 home
theorem lk_put {t p : Addr} {od : Obj} {u o : HO} {G : Hp} (n : p ≠ t) : upd (Lk t od u G) p o = Lk t od u (upd G p o) := by
  funext b
  by_cases c : b = p
  · subst c
    show upd (upd G t _) b o b = upd (upd G b o) t _ b
    rw [upd_same, upd_ne n, upd_same]
  · show upd (upd G t _) p o b = upd (upd G p o) t _ b
    by_cases c2 : b = t
    · subst c2; rw [upd_ne c, upd_same, upd_same]
    · rw [upd_ne c, upd_ne c2, upd_ne c2, upd_ne c]
theorem homes_all {ring : Bool} {len home p0 t0 : Int} {sts : List Stp} {ls : List Int} (x : Int) : x ∈ allHomes ring len home sts (tabOf ring len sts p0 t0 (keysAll ls)) ls.length ↔ x ∈ homesOf ring len home sts (tabOf ring len sts p0 t0 (keysAll ls)) ls := by
  unfold allHomes homesOf
  constructor
  · intro h
    obtain ⟨⟨⟨done, last⟩, v⟩, he, rfl⟩ := List.mem_map.mp h
    obtain ⟨he, hl⟩ := List.mem_filter.mp he
    obtain ⟨km, hc⟩ := mem_ents.mp he
    obtain ⟨sub, lm⟩ := mem_keysAll.mp km
    have ed : done = ls := sub.eq_of_length (of_decide_eq_true hl)
    subst ed
    refine List.mem_map.mpr ⟨_, mem_ways.mpr ⟨last, v, lm, ?_, rfl⟩, rfl⟩
    exact (look_all (go := goTime ring len sts) (List.Sublist.refl _) lm).trans hc
  · intro h
    obtain ⟨w, hw, rfl⟩ := List.mem_map.mp h
    obtain ⟨n, u, hn, hu, rfl⟩ := mem_ways.mp hw
    have hc := (look_all (go := goTime ring len sts) (pl := fun n => (stAt sts n).1) (p0 := p0) (t0 := t0) (List.Sublist.refl ls) hn).symm.trans hu
    refine List.mem_map.mpr ⟨((ls, n), u), List.mem_filter.mpr ⟨mem_ents.mpr ⟨mem_keysAll.mpr ⟨List.Sublist.refl _, hn⟩, hc⟩, by simp⟩, rfl⟩
/-! ### what the table means -/
section
variable {go : Int → Int → Int → Option Int} {pl : Int → Int}
/-- driving an order -/
def drv (go : Int → Int → Int → Option Int) (pl : Int → Int) : Int → Int → List Int → Option (Int × Int)
  | p, t, [] => some (p, t)
  | p, t, n :: r => (go p t n).bind fun t' => drv go pl (pl n) t' r
theorem drv_app {a b : List Int} : ∀ {p t : Int}, drv go pl p t (a ++ b) = (drv go pl p t a).bind fun z => drv go pl z.1 z.2 b := by
  induction a with
  | nil => intro p t; rfl
  | cons n r ih =>
    intro p t
    show (go p t n).bind (fun t' => drv go pl (pl n) t' (r ++ b)) = ((go p t n).bind fun t' => drv go pl (pl n) t' r).bind _
    cases go p t n with
    | none => rfl
    | some t' => exact ih
theorem drv_snoc {a : List Int} {n p t : Int} : drv go pl p t (a ++ [n]) = (drv go pl p t a).bind fun z => (go z.1 z.2 n).map fun t' => (pl n, t') := by
  rw [drv_app]
  cases drv go pl p t a with
  | none => rfl
  | some z =>
    show (go z.1 z.2 n).bind (fun t' => drv go pl (pl n) t' []) = (go z.1 z.2 n).map _
    cases go z.1 z.2 n <;> rfl
/-- who comes earlier leaves no later -/
def Mono (go : Int → Int → Int → Option Int) : Prop := ∀ p t t' n w, t' ≤ t → go p t n = some w → ∃ w', go p t' n = some w' ∧ w' ≤ w
theorem others_nil {done : List Int} {last : Int} (nd : done.Nodup) (m : last ∈ done) (o : othersOf done last = []) : done = [last] := by
  have h := others_len nd m
  rw [o] at h
  cases done with
  | nil => cases m
  | cons x r =>
    have hr : r = [] := List.eq_nil_of_length_eq_zero (by rw [List.length_nil, List.length_cons] at h; omega)
    subst hr
    rw [List.mem_singleton.mp m]
theorem others_perm {done : List Int} {last : Int} (nd : done.Nodup) (m : last ∈ done) : (othersOf done last ++ [last]).Perm done := by
  have nd2 : (othersOf done last ++ [last]).Nodup := by
    rw [List.nodup_append]
    refine ⟨nd.filter _, by simp, fun a ha b hb e => ?_⟩
    rw [List.mem_singleton.mp hb] at e
    subst e
    unfold othersOf at ha
    have := (List.mem_filter.mp ha).2
    simp at this
  refine (List.perm_ext_iff_of_nodup nd2 nd).mpr fun x => ?_
  unfold othersOf
  rw [List.mem_append, List.mem_filter, List.mem_singleton]
  constructor
  · rintro (⟨h, _⟩ | h)
    · exact h
    · subst h; exact m
  · intro h
    by_cases c : x = last
    · exact .inr c
    · exact .inl ⟨h, by simpa using c⟩
theorem cell_sound {p0 t0 : Int} : ∀ (k : Nat) {done : List Int} {last : Int} {v : TV}, done.length = k → done.Pairwise (· < ·) → last ∈ done → cell go pl p0 t0 done last = some v → ∃ o : List Int, (o ++ [last]).Perm done ∧ drv go pl p0 t0 (o ++ [last]) = some (pl last, v.1)
  | 0, done, last, v, hk, _, m, _ => by rw [List.eq_nil_of_length_eq_zero hk] at m; cases m
  | k + 1, done, last, v, hk, ri, m, hc => by
    have nd : done.Nodup := ri.imp fun h => by omega
    by_cases c : othersOf done last = []
    · obtain ⟨_, g⟩ := ent_one nd m hc c
      refine ⟨[], by rw [others_nil nd m c]; exact List.Perm.refl _, ?_⟩
      rw [drv_snoc]
      show (go p0 t0 last).map (fun t' => (pl last, t')) = _
      rw [g]
      rfl
    · obtain ⟨b, u, _, hb, hu, g, _⟩ := ent_more ri m hc c
      have l := others_len nd m
      obtain ⟨o, po, ho⟩ := cell_sound k (done := othersOf done last) (by omega) (ri.filter _) hb hu
      refine ⟨o ++ [b], ?_, ?_⟩
      · exact (po.append_right [last]).trans (others_perm nd m)
      · rw [drv_snoc, ho]
        show (go (pl b) u.1 last).map (fun t' => (pl last, t')) = _
        rw [g]
        rfl
theorem cell_least {p0 t0 : Int} (mono : Mono go) : ∀ (k : Nat) {done o : List Int} {last w : Int}, done.length = k → done.Pairwise (· < ·) → (o ++ [last]).Perm done → drv go pl p0 t0 (o ++ [last]) = some (pl last, w) → ∃ v, cell go pl p0 t0 done last = some v ∧ v.1 ≤ w
  | 0, done, o, last, w, hk, _, pm, _ => by
    have := pm.length_eq
    rw [hk, List.length_append, List.length_singleton] at this
    omega
  | k + 1, done, o, last, w, hk, ri, pm, hd => by
    have nd : done.Nodup := ri.imp fun h => by omega
    have m : last ∈ done := pm.mem_iff.mp (by simp)
    have l := others_len nd m
    have po : o.Perm (othersOf done last) := by
      have h1 : (o ++ [last]).Perm (othersOf done last ++ [last]) := pm.trans (others_perm nd m).symm
      exact (List.perm_append_right_iff [last]).mp h1
    rw [drv_snoc] at hd
    rw [cell_eq go pl p0 t0 nd m]
    rcases List.eq_nil_or_concat o with rfl | ⟨o', b, rfl⟩
    · have c : othersOf done last = [] := List.eq_nil_of_length_eq_zero (by rw [← po.length_eq]; rfl)
      rw [if_pos c]
      have hd2 : (go p0 t0 last).map (fun t' => (pl last, t')) = some (pl last, w) := hd
      obtain ⟨t', g, e⟩ := Option.map_eq_some_iff.mp hd2
      have e2 : t' = w := (Prod.mk.inj e).2
      subst e2
      exact early_le go (w := (none, p0, t0)) (List.mem_singleton.mpr rfl) g
    · rw [List.concat_eq_append] at po hd
      have hb : b ∈ othersOf done last := po.mem_iff.mp (by simp)
      rw [if_neg (fun z => by rw [z] at hb; cases hb)]
      cases hx : drv go pl p0 t0 (o' ++ [b]) with
      | none => rw [hx] at hd; cases hd
      | some zb =>
        have hz := hx
        rw [drv_snoc] at hx
        cases hy : drv go pl p0 t0 o' with
        | none => rw [hy] at hx; cases hx
        | some za =>
          rw [hy] at hx
          obtain ⟨tb, _, eb⟩ := Option.map_eq_some_iff.mp (show (go za.1 za.2 b).map (fun t' => (pl b, t')) = some zb from hx)
          subst eb
          obtain ⟨u, hu, le⟩ := cell_least mono k (done := othersOf done last) (by omega) (ri.filter _) po hz
          rw [hz] at hd
          obtain ⟨t', g, e⟩ := Option.map_eq_some_iff.mp (show (go (pl b) tb last).map (fun t' => (pl last, t')) = some (pl last, w) from hd)
          have e2 : t' = w := (Prod.mk.inj e).2
          subst e2
          obtain ⟨w', g', le'⟩ := mono _ _ _ _ _ le g
          obtain ⟨v, ev, lv⟩ := early_le go (mem_ways (pl := pl).mpr ⟨b, u, hb, hu, rfl⟩) g'
          exact ⟨v, ev, by omega⟩
end

theorem mono_goTime (ring : Bool) (len : Int) (sts : List Stp) : Mono (goTime ring len sts) := by
  intro p t t' n w le h
  unfold goTime goOn at h ⊢
  by_cases c : t + apartOf ring len p (stAt sts n).1 > (stAt sts n).2.2.1
  · rw [if_pos c] at h; cases h
  · rw [if_neg c] at h
    rw [if_neg (by omega)]
    refine ⟨_, rfl, ?_⟩
    have h2 := Option.some.inj h
    show maxOf (t' + apartOf ring len p (stAt sts n).1) (stAt sts n).2.1 + (stAt sts n).2.2.2 ≤ w
    rw [← h2]
    show _ ≤ maxOf (t + apartOf ring len p (stAt sts n).1) (stAt sts n).2.1 + (stAt sts n).2.2.2
    unfold maxOf
    split <;> split <;> omega
theorem behind_drv {ring : Bool} {len : Int} {sts : List Stp} : ∀ {ns : List Int} {p t : Int}, behindOf ring len sts p t ns = drv (goTime ring len sts) (fun n => (stAt sts n).1) p t ns
  | [], _, _ => rfl
  | n :: r, p, t => by
    show (goOn ring len p t (stAt sts n)).bind (fun x => behindOf ring len sts (stAt sts n).1 x.2.2 r) = (goTime ring len sts p t n).bind _
    unfold goTime
    cases goOn ring len p t (stAt sts n) with
    | none => rfl
    | some x => exact behind_drv
section
variable (ring : Bool) (len home start : Int) (sts : List Stp)
/-- e is the end of a tour that begins with ns -/
def Ends (ns : List Int) (e : Int) : Prop := ∃ (o : List Int) (z : Int × Int), o.Perm (restOf sts.length ns) ∧ behindOf ring len sts home start (ns ++ o) = some z ∧ e = z.2 + apartOf ring len z.1 home
def IsLeast (ns : List Int) : Option Int → Prop
  | none => ∀ e, ¬ Ends ring len home start sts ns e
  | some m => Ends ring len home start sts ns m ∧ ∀ e, Ends ring len home start sts ns e → m ≤ e
theorem least_is {ns : List Int} : IsLeast ring len home start sts ns (leastOf ring len sts home start ns) := by
  cases hb : behindOf ring len sts home start ns with
  | none =>
    rw [least_none hb]
    rintro e ⟨o, z, _, hz, _⟩
    rw [behind_drv, drv_app, ← behind_drv, hb] at hz
    cases hz
  | some z0 =>
    have split : ∀ o, behindOf ring len sts home start (ns ++ o) = behindOf ring len sts z0.1 z0.2 o := fun o => by
      rw [behind_drv, drv_app, ← behind_drv, hb]
      exact behind_drv.symm
    by_cases c : restOf sts.length ns = []
    · have el : leastOf ring len sts home start ns = some (z0.2 + apartOf ring len z0.1 home) := by
        unfold leastOf
        rw [if_pos c, hb]
        rfl
      rw [el]
      have all : ∀ e, Ends ring len home start sts ns e ↔ e = z0.2 + apartOf ring len z0.1 home := by
        intro e
        constructor
        · rintro ⟨o, z, po, hz, rfl⟩
          rw [c] at po
          have eo : o = [] := po.eq_nil
          rw [eo, List.append_nil, hb] at hz
          rw [← Option.some.inj hz]
        · intro he
          exact ⟨[], z0, by rw [c], by rw [List.append_nil]; exact hb, he⟩
      exact ⟨(all _).mpr rfl, fun e he => by rw [(all e).mp he]; exact Int.le_refl _⟩
    · have te : tableOf ring len sts home start ns = tabOf ring len sts z0.1 z0.2 (keysAll (restOf sts.length ns)) := by unfold tableOf; rw [hb]
      have el : leastOf ring len sts home start ns = minL (homesOf ring len home sts (tabOf ring len sts z0.1 z0.2 (keysAll (restOf sts.length ns))) (restOf sts.length ns)) := by
        unfold leastOf
        rw [if_neg c, te]
      have ri := rest_rise sts.length ns
      have lk : ∀ n ∈ restOf sts.length ns, look (tabOf ring len sts z0.1 z0.2 (keysAll (restOf sts.length ns))) (restOf sts.length ns, n) = cell (goTime ring len sts) (fun n => (stAt sts n).1) z0.1 z0.2 (restOf sts.length ns) n := fun n hn => look_all (List.Sublist.refl _) hn
      have sound : ∀ x ∈ homesOf ring len home sts (tabOf ring len sts z0.1 z0.2 (keysAll (restOf sts.length ns))) (restOf sts.length ns), Ends ring len home start sts ns x := by
        intro x hx
        unfold homesOf at hx
        obtain ⟨w, hw, rfl⟩ := List.mem_map.mp hx
        obtain ⟨n, u, hn, hu, rfl⟩ := mem_ways.mp hw
        rw [lk n hn] at hu
        obtain ⟨o, po, ho⟩ := cell_sound _ rfl ri hn hu
        exact ⟨o ++ [n], ((stAt sts n).1, u.1), po, by rw [split, behind_drv]; exact ho, rfl⟩
      have least : ∀ e, Ends ring len home start sts ns e → ∃ x ∈ homesOf ring len home sts (tabOf ring len sts z0.1 z0.2 (keysAll (restOf sts.length ns))) (restOf sts.length ns), x ≤ e := by
        rintro e ⟨o, z, po, hz, rfl⟩
        rw [split, behind_drv] at hz
        rcases List.eq_nil_or_concat o with rfl | ⟨o', n, rfl⟩
        · exact absurd po.nil_eq.symm c
        · rw [List.concat_eq_append] at po hz
          have hn : n ∈ restOf sts.length ns := po.mem_iff.mp (by simp)
          have hz2 := hz
          rw [drv_snoc] at hz2
          cases ha : drv (goTime ring len sts) (fun n => (stAt sts n).1) z0.1 z0.2 o' with
          | none => rw [ha] at hz2; cases hz2
          | some za =>
            rw [ha] at hz2
            obtain ⟨t', _, ez⟩ := Option.map_eq_some_iff.mp (show (goTime ring len sts za.1 za.2 n).map (fun t' => ((stAt sts n).1, t')) = some z from hz2)
            subst ez
            obtain ⟨v, hv, le⟩ := cell_least (mono_goTime ring len sts) _ rfl ri po hz
            refine ⟨v.1 + apartOf ring len (stAt sts n).1 home, ?_, by show v.1 + apartOf ring len (stAt sts n).1 home ≤ t' + apartOf ring len (stAt sts n).1 home; omega⟩
            unfold homesOf
            exact List.mem_map.mpr ⟨_, mem_ways.mpr ⟨n, v, hn, (lk n hn).trans hv, rfl⟩, rfl⟩
      rw [el]
      cases hm : minL (homesOf ring len home sts (tabOf ring len sts z0.1 z0.2 (keysAll (restOf sts.length ns))) (restOf sts.length ns)) with
      | none =>
        intro e he
        obtain ⟨x, hx, _⟩ := least e he
        rw [minL_none.mp hm] at hx
        cases hx
      | some m =>
        obtain ⟨m1, m2⟩ := minL_is.minL_mem hm
        refine ⟨sound m m1, fun e he => ?_⟩
        obtain ⟨x, hx, le⟩ := least e he
        have := m2 x hx
        omega
/-- a tour goes on by some stop -/
theorem ends_step {ns : List Int} {e : Int} (h : Ends ring len home start sts ns e) (ne : restOf sts.length ns ≠ []) : ∃ n ∈ restOf sts.length ns, Ends ring len home start sts (ns ++ [n]) e := by
  obtain ⟨o, z, po, hz, he⟩ := h
  cases o with
  | nil => exact absurd po.nil_eq.symm ne
  | cons n r =>
    have hn : n ∈ restOf sts.length ns := po.mem_iff.mp (List.mem_cons_self ..)
    refine ⟨n, hn, r, z, ?_, by rw [List.append_assoc]; exact hz, he⟩
    exact rest_cons po
where
  rest_cons {ns r : List Int} {n : Int} {m : Nat} (po : (n :: r).Perm (restOf m ns)) : r.Perm (restOf m (ns ++ [n])) := by
    have nd : (n :: r).Nodup := po.nodup_iff.mpr (rest_nodup m ns)
    obtain ⟨n1, n2⟩ := List.nodup_cons.mp nd
    refine (List.perm_ext_iff_of_nodup n2 (rest_nodup m _)).mpr fun x => ?_
    rw [rest_mem, List.mem_append, List.mem_singleton]
    have hx := po.mem_iff (a := x)
    rw [rest_mem, List.mem_cons] at hx
    constructor
    · intro h
      obtain ⟨h1, h2⟩ := hx.mp (.inr h)
      refine ⟨h1, ?_⟩
      rintro (z | z)
      · exact h2 z
      · subst z; exact n1 h
    · rintro ⟨h1, h2⟩
      rcases hx.mpr ⟨h1, fun z => h2 (.inl z)⟩ with z | z
      · exact absurd (.inr z) h2
      · exact z
theorem ends_back {ns : List Int} {n e : Int} (hn : n ∈ restOf sts.length ns) (h : Ends ring len home start sts (ns ++ [n]) e) : Ends ring len home start sts ns e := by
  obtain ⟨o, z, po, hz, he⟩ := h
  refine ⟨n :: o, z, ?_, by rw [List.append_assoc] at hz; exact hz, he⟩
  have nd1 := rest_nodup sts.length (ns ++ [n])
  have nd : (n :: o).Nodup := by
    rw [List.nodup_cons]
    refine ⟨fun m => ?_, po.nodup_iff.mpr nd1⟩
    have := rest_mem.mp (po.mem_iff.mp m)
    exact this.2 (by simp)
  refine (List.perm_ext_iff_of_nodup nd (rest_nodup _ _)).mpr fun x => ?_
  rw [List.mem_cons, po.mem_iff, rest_mem, rest_mem, List.mem_append, List.mem_singleton]
  constructor
  · rintro (h | ⟨h1, h2⟩)
    · subst h; exact rest_mem.mp hn
    · exact ⟨h1, fun z => h2 (.inl z)⟩
  · rintro ⟨h1, h2⟩
    by_cases c : x = n
    · exact .inl c
    · exact .inr ⟨h1, by rintro (z | z); exact h2 z; exact c z⟩
/-- the least end goes on: some stop keeps it, none lessens it -/
theorem least_step {ns : List Int} {m : Int} (h : leastOf ring len sts home start ns = some m) (ne : restOf sts.length ns ≠ []) :
    (∃ n ∈ restOf sts.length ns, leastOf ring len sts home start (ns ++ [n]) = some m) ∧ ∀ n ∈ restOf sts.length ns, ∀ e, leastOf ring len sts home start (ns ++ [n]) = some e → m ≤ e := by
  have h0 := least_is ring len home start sts (ns := ns)
  rw [h] at h0
  obtain ⟨h1, h2⟩ := h0
  have ge : ∀ n ∈ restOf sts.length ns, ∀ e, leastOf ring len sts home start (ns ++ [n]) = some e → m ≤ e := by
    intro n hn e he
    have k := least_is ring len home start sts (ns := ns ++ [n])
    rw [he] at k
    exact h2 e (ends_back ring len home start sts hn k.1)
  refine ⟨?_, ge⟩
  obtain ⟨n, hn, hm⟩ := ends_step ring len home start sts h1 ne
  refine ⟨n, hn, ?_⟩
  have k := least_is ring len home start sts (ns := ns ++ [n])
  cases e : leastOf ring len sts home start (ns ++ [n]) with
  | none => rw [e] at k; exact absurd hm (k m)
  | some e' =>
    rw [e] at k
    have a := ge n hn e' e
    have b := k.2 m hm
    congr 1
    omega
end

/-! ### tours, as the program finds them -/
theorem ordOk_nil (m : Nat) : ordOk [] m := ⟨fun x hx => (by cases hx), List.nodup_nil⟩
theorem ordOk_snoc {os : List Int} {m : Nat} {n : Int} (ok : ordOk os m) (h : n ∈ restOf m os) : ordOk (os ++ [n]) m := by
  obtain ⟨h1, h2⟩ := rest_mem.mp h
  refine ⟨fun x hx => ?_, ?_⟩
  · rcases List.mem_append.mp hx with hx | hx
    · exact ok.1 x hx
    · rw [List.mem_singleton.mp hx]; exact h1
  · rw [List.nodup_append]
    exact ⟨ok.2, by simp, fun a ha b hb e => h2 (by rw [List.mem_singleton.mp hb] at e; exact e ▸ ha)⟩
theorem ordOk_len {os : List Int} {m : Nat} (ok : ordOk os m) : os.length ≤ m := by
  have h := (rest_perm ok).length_eq
  rw [List.length_append, List.length_map, List.length_range] at h
  omega
def allOf (m : Nat) : List Int := (List.range m).map fun i : Nat => (i : Int)
theorem rg_all (m : Nat) : rgV 0 (m : Int) = (allOf m).map V.int := by
  unfold rgV allOf
  have e : ((m : Int) - 0).toNat = m := by omega
  rw [e, List.map_map]
  refine List.map_congr_left fun i _ => ?_
  show V.int (0 + (i : Int)) = V.int (i : Int)
  rw [Int.zero_add]
theorem all_len (m : Nat) : (allOf m).length = m := by unfold allOf; rw [List.length_map, List.length_range]
theorem mem_all {m : Nat} {n : Int} : n ∈ allOf m ↔ 0 ≤ n ∧ n < m := by
  unfold allOf
  rw [List.mem_map]
  constructor
  · rintro ⟨i, hi, rfl⟩
    have := List.mem_range.mp hi
    omega
  · rintro ⟨h1, h2⟩
    exact ⟨n.toNat, List.mem_range.mpr (by omega), by omega⟩
theorem all_rise (m : Nat) : (allOf m).Pairwise (· < ·) := by
  unfold allOf
  rw [List.pairwise_map]
  exact List.pairwise_lt_range.imp fun h => by omega
theorem rest_all (m : Nat) : restOf m [] = allOf m := by
  unfold restOf allOf
  rw [List.filter_eq_self]
  intro a _
  rfl
section
variable (ring : Bool) (len home start : Int) (sts : List Stp)
def keepsOf (e : Int) (os : List Int) : List Int := (restOf sts.length os).filter fun n => decide (leastOf ring len sts home start (os ++ [n]) = some e)
def nextOf (e : Int) (os : List Int) : Int := (minL (keepsOf ring len home start sts e os)).getD 0
def bestGo (e : Int) : Nat → List Int
  | 0 => []
  | k + 1 => bestGo e k ++ [nextOf ring len home start sts e (bestGo e k)]
def bestOf : Option (List Int) := (leastOf ring len sts home start []).map fun e => bestGo ring len home start sts e sts.length
theorem mem_keeps {e : Int} {os : List Int} {n : Int} : n ∈ keepsOf ring len home start sts e os ↔ n ∈ restOf sts.length os ∧ leastOf ring len sts home start (os ++ [n]) = some e := by
  unfold keepsOf
  rw [List.mem_filter, decide_eq_true_iff]
theorem next_ok {e : Int} {os : List Int} (ok : ordOk os sts.length) (h : leastOf ring len sts home start os = some e) (lt : os.length < sts.length) :
    nextOf ring len home start sts e os ∈ keepsOf ring len home start sts e os ∧ ∀ n ∈ keepsOf ring len home start sts e os, nextOf ring len home start sts e os ≤ n := by
  have ne : restOf sts.length os ≠ [] := fun z => by have := (rest_nil ok).mp z; omega
  obtain ⟨⟨n, hn, hm⟩, _⟩ := least_step ring len home start sts h ne
  have km := (mem_keeps ring len home start sts).mpr ⟨hn, hm⟩
  unfold nextOf
  cases c : minL (keepsOf ring len home start sts e os) with
  | none => rw [minL_none.mp c] at km; cases km
  | some m => exact minL_is.minL_mem c
theorem best_go {e : Int} (h : leastOf ring len sts home start [] = some e) : ∀ k, k ≤ sts.length → ordOk (bestGo ring len home start sts e k) sts.length ∧ (bestGo ring len home start sts e k).length = k ∧ leastOf ring len sts home start (bestGo ring len home start sts e k) = some e
  | 0, _ => ⟨ordOk_nil _, rfl, h⟩
  | k + 1, hk => by
    obtain ⟨a, b, c⟩ := best_go h k (by omega)
    obtain ⟨d, _⟩ := next_ok ring len home start sts a c (by omega)
    obtain ⟨d1, d2⟩ := (mem_keeps ring len home start sts).mp d
    exact ⟨ordOk_snoc a d1, by rw [bestGo, List.length_append, b]; rfl, d2⟩
theorem least_full {os : List Int} (ok : ordOk os sts.length) (hl : os.length = sts.length) : leastOf ring len sts home start os = (behindOf ring len sts home start os).map fun z => z.2 + apartOf ring len z.1 home := by
  unfold leastOf
  rw [if_pos ((rest_nil ok).mpr hl)]
theorem best_none (h : leastOf ring len sts home start [] = none) : bestOf ring len home start sts = none := by unfold bestOf; rw [h]; rfl
theorem best_some {e : Int} (h : leastOf ring len sts home start [] = some e) : bestOf ring len home start sts = some (bestGo ring len home start sts e sts.length) := by unfold bestOf; rw [h]; rfl
/-- the best tour is one, home at the least end -/
theorem best_is {os : List Int} (h : bestOf ring len home start sts = some os) : ∃ e z, leastOf ring len sts home start [] = some e ∧ os = bestGo ring len home start sts e sts.length ∧ ordOk os sts.length ∧ os.length = sts.length ∧ behindOf ring len sts home start os = some z ∧ e = z.2 + apartOf ring len z.1 home := by
  cases c : leastOf ring len sts home start [] with
  | none => rw [best_none ring len home start sts c] at h; cases h
  | some e =>
    rw [best_some ring len home start sts c] at h
    obtain rfl := Option.some.inj h
    obtain ⟨a, b, d⟩ := best_go ring len home start sts c sts.length (Nat.le_refl _)
    rw [least_full ring len home start sts a b] at d
    obtain ⟨z, hz, he⟩ := Option.map_eq_some_iff.mp d
    exact ⟨e, z, rfl, rfl, a, b, hz, he.symm⟩
/-! #### clashes -/
def subOf (ks : List Int) : List Stp := ks.map (stAt sts)
def hasOf (ks : List Int) : Bool := (leastOf ring len (subOf sts ks) home start []).isSome
def lessOf (ks : List Int) (n : Int) : List Int := ks.filter fun x => decide (x ≠ n)
def dropOf (ks : List Int) (n : Int) : List Int := if hasOf ring len home start sts (lessOf ks n) = true then ks else lessOf ks n
def clashGo : Nat → List Int
  | 0 => allOf sts.length
  | i + 1 => dropOf ring len home start sts (clashGo i) ((sts.length : Int) - 1 - (i : Int))
def clashOf : Option (List Int) := if hasOf ring len home start sts (allOf sts.length) = true then none else some (clashGo ring len home start sts sts.length)
theorem clash_sub : ∀ i, (clashGo ring len home start sts i).Sublist (allOf sts.length)
  | 0 => List.Sublist.refl _
  | i + 1 => by
    have ih := clash_sub i
    unfold clashGo dropOf
    split
    · exact ih
    · exact List.filter_sublist.trans ih
theorem sub_all : subOf sts (allOf sts.length) = sts := by
  refine List.ext_getElem? fun i => ?_
  show ((allOf sts.length).map (stAt sts))[i]? = sts[i]?
  rw [List.getElem?_map]
  unfold allOf
  rw [List.getElem?_map]
  by_cases c : i < sts.length
  · rw [List.getElem?_range c]
    exact (stAt_eq (n := (i : Int)) (by omega) (by omega)).symm
  · rw [List.getElem?_eq_none (by rw [List.length_range]; omega), List.getElem?_eq_none (by omega)]
    rfl
theorem sub_mem {ks : List Int} (h : ∀ n ∈ ks, 0 ≤ n ∧ n < sts.length) : ∀ s ∈ subOf sts ks, s ∈ sts := by
  intro s hs
  obtain ⟨n, hn, rfl⟩ := List.mem_map.mp hs
  obtain ⟨h0, h1⟩ := h n hn
  exact stAt_mem h0 h1
theorem clash_none (h : clashOf ring len home start sts = none) : (leastOf ring len sts home start []).isSome = true := by
  unfold clashOf hasOf at h
  rw [sub_all] at h
  by_cases c : (leastOf ring len sts home start []).isSome = true
  · exact c
  · rw [if_neg c] at h; cases h
theorem clash_of (h : leastOf ring len sts home start [] = none) : clashOf ring len home start sts = some (clashGo ring len home start sts sts.length) := by
  unfold clashOf hasOf
  rw [sub_all, h]
  rfl
theorem clash_not {e : Int} (h : leastOf ring len sts home start [] = some e) : clashOf ring len home start sts = none := by
  unfold clashOf hasOf
  rw [sub_all, h]
  rfl
end
/-- a day that nothing refuses -/
def GoodDay (ring : Bool) (len home start : Int) (sts : List Stp) : Prop := 1 ≤ len ∧ len ≤ 1000000000 ∧ onRoad ring len home ∧ isTime start ∧ (∀ s ∈ sts, goodStop ring len s) ∧ sts.length ≤ 7
theorem GoodDay.flt {ring : Bool} {len home start : Int} {sts : List Stp} (g : GoodDay ring len home start sts) : dayFlt (wordOf ring) len home start sts = none := good_flt g.1 g.2.1 g.2.2.1 g.2.2.2.1 g.2.2.2.2.2 g.2.2.2.2.1
theorem GoodDay.sub {ring : Bool} {len home start : Int} {sts : List Stp} (g : GoodDay ring len home start sts) {ks : List Int} (h : ∀ n ∈ ks, 0 ≤ n ∧ n < sts.length) (h7 : ks.length ≤ 7) : GoodDay ring len home start (subOf sts ks) :=
  ⟨g.1, g.2.1, g.2.2.1, g.2.2.2.1, fun s hs => g.2.2.2.2.1 s (sub_mem sts h s hs), by unfold subOf; rw [List.length_map]; exact h7⟩
theorem scal_opt (o : Option Int) (e : Int) : scal (optV o) (.int e) = true := by cases o <;> rfl
theorem dec_opt (o : Option Int) (e : Int) : decide (optV o = V.int e) = decide (o = some e) := by
  refine dec_eq ?_
  cases o with
  | none => exact ⟨fun h => (by cases h), fun h => (by cases h)⟩
  | some m => exact ⟨fun h => (by rw [V.int.inj h]), fun h => (by rw [Option.some.inj h]; rfl)⟩
theorem notnone_opt (o : Option Int) : (!decide (optV o = V.non)) = o.isSome := by
  cases o with
  | none => rfl
  | some m => rfl
theorem sorted_all {os ns : List Int} {m : Nat} (ok : ordOk os m) (hl : os.length = m) (pm : ns.Perm os) (le : ns.Pairwise (· ≤ ·)) : ns = allOf m := by
  have h := rest_perm ok
  rw [(rest_nil ok).mpr hl, List.append_nil] at h
  exact perm_rise (pm.trans h) le (all_rise m)
section
variable (ring : Bool) (len home start : Int) (sts : List Stp)
theorem go_step (i : Nat) {n : Int} (h : n ≠ (sts.length : Int) - 1 - (i : Int)) : n ∈ clashGo ring len home start sts (i + 1) ↔ n ∈ clashGo ring len home start sts i := by
  show n ∈ dropOf ring len home start sts (clashGo ring len home start sts i) ((sts.length : Int) - 1 - (i : Int)) ↔ _
  unfold dropOf
  split
  · exact Iff.rfl
  · unfold lessOf
    rw [List.mem_filter, decide_eq_true_iff]
    exact ⟨fun z => z.1, fun z => ⟨z, h⟩⟩
theorem go_from (i : Nat) {n : Int} (h : (sts.length : Int) - (i : Int) ≤ n) : ∀ d, n ∈ clashGo ring len home start sts (i + d) ↔ n ∈ clashGo ring len home start sts i
  | 0 => Iff.rfl
  | d + 1 => (go_step ring len home start sts (i + d) (by omega)).trans (go_from i h d)
theorem go_small {n : Int} (h0 : 0 ≤ n) : ∀ i : Nat, n < (sts.length : Int) - (i : Int) → n ∈ clashGo ring len home start sts i
  | 0, h => mem_all.mpr ⟨h0, by omega⟩
  | i + 1, h => (go_step ring len home start sts i (by omega)).mpr (go_small h0 i (by omega))
/-- the stops that are left when it is this one's turn -/
def othersAt (k : Int) : List Int := (allOf sts.length).filter fun n => decide (n < k ∨ (k < n ∧ n ∈ clashGo ring len home start sts sts.length))
theorem less_is {i : Nat} (hi : i < sts.length) : lessOf (clashGo ring len home start sts i) ((sts.length : Int) - 1 - (i : Int)) = othersAt ring len home start sts ((sts.length : Int) - 1 - (i : Int)) := by
  have sub := clash_sub ring len home start sts i
  refine rise_eq (((all_rise _).sublist sub).sublist List.filter_sublist) ((all_rise _).sublist List.filter_sublist) fun x => ?_
  unfold lessOf othersAt
  rw [List.mem_filter, List.mem_filter, decide_eq_true_iff, decide_eq_true_iff]
  have fr := fun h => go_from ring len home start sts i (n := x) h (sts.length - i)
  rw [show i + (sts.length - i) = sts.length by omega] at fr
  constructor
  · rintro ⟨h1, h2⟩
    have h3 := sub.subset h1
    refine ⟨h3, ?_⟩
    by_cases c : x < (sts.length : Int) - 1 - (i : Int)
    · exact .inl c
    · exact .inr ⟨by omega, (fr (by omega)).mpr h1⟩
  · rintro ⟨h1, h2⟩
    have h3 := mem_all.mp h1
    rcases h2 with c | ⟨c1, c2⟩
    · exact ⟨go_small ring len home start sts h3.1 i (by omega), by omega⟩
    · exact ⟨(fr (by omega)).mp c2, by omega⟩
/-- a stop is told just where the others that are still kept have a tour -/
theorem clash_at {k : Int} (k0 : 0 ≤ k) (k1 : k < sts.length) : k ∈ clashGo ring len home start sts sts.length ↔ hasOf ring len home start sts (othersAt ring len home start sts k) = true := by
  obtain ⟨i, hi⟩ : ∃ i : Nat, (i : Int) = (sts.length : Int) - 1 - k := ⟨((sts.length : Int) - 1 - k).toNat, by omega⟩
  have ek : k = (sts.length : Int) - 1 - (i : Int) := by omega
  have il : i < sts.length := by omega
  have fr := go_from ring len home start sts (i + 1) (n := k) (by omega) (sts.length - (i + 1))
  rw [show i + 1 + (sts.length - (i + 1)) = sts.length by omega] at fr
  rw [fr, ek, ← less_is ring len home start sts il]
  show _ ∈ dropOf ring len home start sts (clashGo ring len home start sts i) ((sts.length : Int) - 1 - (i : Int)) ↔ _
  have m0 := go_small ring len home start sts k0 i (by omega)
  rw [ek] at m0
  unfold dropOf
  by_cases c : hasOf ring len home start sts (lessOf (clashGo ring len home start sts i) ((sts.length : Int) - 1 - (i : Int))) = true
  · rw [if_pos c]
    exact ⟨fun _ => c, fun _ => m0⟩
  · rw [if_neg c]
    refine ⟨fun z => ?_, fun z => absurd z c⟩
    unfold lessOf at z
    have := (List.mem_filter.mp z).2
    simp at this
theorem go_has (h : hasOf ring len home start sts (allOf sts.length) = false) : ∀ i, hasOf ring len home start sts (clashGo ring len home start sts i) = false
  | 0 => h
  | i + 1 => by
    have ih := go_has h i
    show hasOf ring len home start sts (dropOf ring len home start sts (clashGo ring len home start sts i) ((sts.length : Int) - 1 - (i : Int))) = false
    unfold dropOf
    split
    · exact ih
    · rename_i c
      exact Bool.not_eq_true _ ▸ c
theorem least_empty (h : 0 < len) : leastOf ring len [] home start [] = some start := by
  unfold leastOf
  rw [if_pos (by rfl)]
  show some (start + apartOf ring len home home) = some start
  rw [apart_self h, Int.add_zero]
/-- what is told of a clash -/
theorem clash_is (h : 0 < len) {ks : List Int} (hk : clashOf ring len home start sts = some ks) : ks = clashGo ring len home start sts sts.length ∧ hasOf ring len home start sts ks = false ∧ ks.Sublist (allOf sts.length) ∧ ks ≠ [] ∧ leastOf ring len sts home start [] = none := by
  unfold clashOf at hk
  by_cases c : hasOf ring len home start sts (allOf sts.length) = true
  · rw [if_pos c] at hk; cases hk
  rw [if_neg c] at hk
  obtain rfl := Option.some.inj hk
  have hf : hasOf ring len home start sts (allOf sts.length) = false := Bool.not_eq_true _ ▸ c
  have g := go_has ring len home start sts hf sts.length
  refine ⟨rfl, g, clash_sub ring len home start sts _, fun z => ?_, ?_⟩
  · rw [z] at g
    unfold hasOf subOf at g
    rw [List.map_nil, least_empty ring len home start h] at g
    cases g
  · unfold hasOf at hf
    rw [sub_all] at hf
    cases e : leastOf ring len sts home start [] with
    | none => rfl
    | some m => rw [e] at hf; cases hf
end

/-! ### all orders, gone through one by one -/
/-- the orders of k of m stops, as the law makes them -/
def ordersAt (m : Nat) : Nat → List (List Int)
  | 0 => [[]]
  | k + 1 => (ordersAt m k).flatMap fun o => (restOf m o).map fun n => o ++ [n]
/-- all that goes on with j more behind o -/
def deep (m : Nat) : Nat → List Int → List (List Int)
  | 0, o => [o]
  | j + 1, o => (restOf m o).flatMap fun n => deep m j (o ++ [n])
theorem orders_deep (m j : Nat) : ∀ k, (ordersAt m k).flatMap (deep m j) = (ordersAt m 0).flatMap (deep m (k + j))
  | 0 => by rw [Nat.zero_add]
  | k + 1 => by
    have ih := orders_deep m (j + 1) k
    rw [show k + 1 + j = k + (j + 1) by omega, ← ih]
    show ((ordersAt m k).flatMap fun o => (restOf m o).map fun n => o ++ [n]).flatMap (deep m j) = _
    rw [List.flatMap_assoc]
    congr 1
    funext o
    rw [List.flatMap_map]
    rfl
theorem orders_all (m : Nat) : ordersAt m m = deep m m [] := by
  have h := orders_deep m 0 m
  have e1 : (ordersAt m m).flatMap (deep m 0) = ordersAt m m := by
    have : deep m 0 = fun o => [o] := by funext o; rfl
    rw [this, List.flatMap_singleton']
  rw [e1] at h
  rw [h]
  show deep m (m + 0) [] ++ [] = _
  rw [List.append_nil, Nat.add_zero]
theorem orders_len {m : Nat} (hm : m ≤ 4) : ∀ k, (ordersAt m k).length ≤ 4 ^ k
  | 0 => Nat.le_refl _
  | k + 1 => by
    have ih := orders_len hm k
    have gen : ∀ l : List (List Int), (l.flatMap fun o => (restOf m o).map fun n => o ++ [n]).length ≤ 4 * l.length := by
      intro l
      induction l with
      | nil => exact Nat.le_refl _
      | cons o r ih2 =>
        rw [List.flatMap_cons, List.length_append, List.length_map, List.length_cons]
        have := rest_len m o
        omega
    have h := gen (ordersAt m k)
    show ((ordersAt m k).flatMap fun o => (restOf m o).map fun n => o ++ [n]).length ≤ 4 ^ (k + 1)
    rw [Nat.pow_succ]
    omega
theorem orders_ok {m : Nat} : ∀ k, ∀ o ∈ ordersAt m k, ordOk o m ∧ o.length = k
  | 0, o, h => by
    rw [List.mem_singleton.mp h]
    exact ⟨ordOk_nil m, rfl⟩
  | k + 1, o, h => by
    obtain ⟨p, hp, ho⟩ := List.mem_flatMap.mp h
    obtain ⟨n, hn, rfl⟩ := List.mem_map.mp ho
    obtain ⟨a, b⟩ := orders_ok k p hp
    exact ⟨ordOk_snoc a hn, by rw [List.length_append, b]; rfl⟩
section
variable (ring : Bool) (len home start : Int) (sts : List Stp)
def endsOf (o : List Int) : Option Int := (behindOf ring len sts home start o).map fun z => z.2 + apartOf ring len z.1 home
theorem ends_ge {e : Int} {x : List Int} (hx : endsOf ring len home start sts x = some e) : ∀ (j : Nat) (o : List Int), ordOk o sts.length → o.length + j = sts.length → x ∈ deep sts.length j o → ∃ l, leastOf ring len sts home start o = some l ∧ l ≤ e
  | 0, o, ok, hl, hm => by
    obtain rfl := List.mem_singleton.mp hm
    exact ⟨e, (least_full ring len home start sts ok (by omega)).trans hx, Int.le_refl _⟩
  | j + 1, o, ok, hl, hm => by
    obtain ⟨n, hn, hd⟩ := List.mem_flatMap.mp hm
    obtain ⟨l', h1, h2⟩ := ends_ge hx j (o ++ [n]) (ordOk_snoc ok hn) (by rw [List.length_append, List.length_singleton]; omega) hd
    have k := least_is ring len home start sts (ns := o ++ [n])
    rw [h1] at k
    have b := ends_back ring len home start sts hn k.1
    have g := least_is ring len home start sts (ns := o)
    cases c : leastOf ring len sts home start o with
    | none => rw [c] at g; exact absurd b (g l')
    | some l =>
      rw [c] at g
      have := g.2 l' b
      exact ⟨l, rfl, by omega⟩
def Later (e : Int) (xs : List (List Int)) : Prop := ∀ x ∈ xs, ∀ e', endsOf ring len home start sts x = some e' → e < e'
def NotEarlier (e : Int) (xs : List (List Int)) : Prop := ∀ x ∈ xs, ∀ e', endsOf ring len home start sts x = some e' → e ≤ e'
theorem rise_split {rs : List Int} (ri : rs.Pairwise (· < ·)) {n : Int} (m : n ∈ rs) : ∃ a b, rs = a ++ n :: b ∧ ∀ x ∈ a, x < n := by
  obtain ⟨a, b, rfl⟩ := List.append_of_mem m
  refine ⟨a, b, rfl, fun x hx => ?_⟩
  exact (List.pairwise_append.mp ri).2.2 x hx n (List.mem_cons_self ..)
theorem best_in {e : Int} (h : leastOf ring len sts home start [] = some e) : ∀ j k, k + j = sts.length → ∃ a b, deep sts.length j (bestGo ring len home start sts e k) = a ++ bestGo ring len home start sts e sts.length :: b ∧ Later ring len home start sts e a ∧ NotEarlier ring len home start sts e b
  | 0, k, hk => by
    rw [Nat.add_zero] at hk
    subst hk
    exact ⟨[], [], rfl, fun x hx => (by cases hx), fun x hx => (by cases hx)⟩
  | j + 1, k, hk => by
    obtain ⟨ok, hl, hle⟩ := best_go ring len home start sts h k (by omega)
    obtain ⟨nk, nl⟩ := next_ok ring len home start sts ok hle (by omega)
    obtain ⟨a, b, h1, h2, h3⟩ := best_in h j (k + 1) (by omega)
    obtain ⟨nr, _⟩ := (mem_keeps ring len home start sts).mp nk
    obtain ⟨ra, rb, hs, hlt⟩ := rise_split (rest_rise sts.length (bestGo ring len home start sts e k)) nr
    have ne : restOf sts.length (bestGo ring len home start sts e k) ≠ [] := fun z => by rw [z] at nr; cases nr
    have ge := (least_step ring len home start sts hle ne).2
    have mr : ∀ n ∈ ra ++ rb, n ∈ restOf sts.length (bestGo ring len home start sts e k) := fun n hn => by
      rw [hs]
      rcases List.mem_append.mp hn with z | z
      · exact List.mem_append_left _ z
      · exact List.mem_append_right _ (List.mem_cons_of_mem _ z)
    have big : ∀ n ∈ restOf sts.length (bestGo ring len home start sts e k), ∀ x ∈ deep sts.length j (bestGo ring len home start sts e k ++ [n]), ∀ e', endsOf ring len home start sts x = some e' → ∃ l, leastOf ring len sts home start (bestGo ring len home start sts e k ++ [n]) = some l ∧ l ≤ e' ∧ e ≤ l := fun n hn x hx e' he => by
      obtain ⟨l, g1, g2⟩ := ends_ge ring len home start sts he j _ (ordOk_snoc ok hn) (by rw [List.length_append, List.length_singleton]; omega) hx
      exact ⟨l, g1, g2, ge n hn l g1⟩
    refine ⟨ra.flatMap (fun n => deep sts.length j (bestGo ring len home start sts e k ++ [n])) ++ a, b ++ rb.flatMap (fun n => deep sts.length j (bestGo ring len home start sts e k ++ [n])), ?_, ?_, ?_⟩
    · show (restOf sts.length (bestGo ring len home start sts e k)).flatMap (fun n => deep sts.length j (bestGo ring len home start sts e k ++ [n])) = _
      rw [hs, List.flatMap_append, List.flatMap_cons]
      have e1 : deep sts.length j (bestGo ring len home start sts e k ++ [nextOf ring len home start sts e (bestGo ring len home start sts e k)]) = a ++ bestGo ring len home start sts e sts.length :: b := h1
      rw [e1]
      simp only [List.append_assoc, List.cons_append]
    · intro x hx e' he
      rcases List.mem_append.mp hx with hx | hx
      · obtain ⟨n, hn, hd⟩ := List.mem_flatMap.mp hx
        have nr' := mr n (List.mem_append_left _ hn)
        obtain ⟨l, g1, g2, g3⟩ := big n nr' x hd e' he
        have lt := hlt n hn
        by_cases c : l = e
        · subst c
          have := nl n ((mem_keeps ring len home start sts).mpr ⟨nr', g1⟩)
          omega
        · omega
      · exact h2 x hx e' he
    · intro x hx e' he
      rcases List.mem_append.mp hx with hx | hx
      · exact h3 x hx e' he
      · obtain ⟨n, hn, hd⟩ := List.mem_flatMap.mp hx
        obtain ⟨l, g1, g2, g3⟩ := big n (mr n (List.mem_append_right _ hn)) x hd e' he
        omega
/-- the law's own search -/
def stepF (s : Option (List Int × Int)) (x : List Int) : Option (List Int × Int) := match endsOf ring len home start sts x with
  | none => s
  | some e => match s with
    | none => some (x, e)
    | some (f, d) => if e < d then some (x, e) else some (f, d)
def firstOf : Option (List Int × Int) := (ordersAt sts.length sts.length).foldl (stepF ring len home start sts) none
theorem fold_later {e : Int} : ∀ (xs : List (List Int)), Later ring len home start sts e xs → ∀ s : Option (List Int × Int), (∀ p, s = some p → e < p.2) → ∀ p, xs.foldl (stepF ring len home start sts) s = some p → e < p.2
  | [], _, s, hs, p, h => hs p h
  | x :: r, hl, s, hs, p, h => by
    refine fold_later r (fun y hy => hl y (List.mem_cons_of_mem _ hy)) (stepF ring len home start sts s x) (fun q hq => ?_) p h
    unfold stepF at hq
    cases c : endsOf ring len home start sts x with
    | none => rw [c] at hq; exact hs q hq
    | some e' =>
      have lt := hl x (List.mem_cons_self ..) e' c
      rw [c] at hq
      cases s with
      | none =>
        obtain rfl := Option.some.inj hq
        exact lt
      | some fd =>
        have hq2 : (if e' < fd.2 then some (x, e') else some (fd.1, fd.2)) = some q := hq
        by_cases c2 : e' < fd.2
        · rw [if_pos c2] at hq2
          obtain rfl := Option.some.inj hq2
          exact lt
        · rw [if_neg c2] at hq2
          obtain rfl := Option.some.inj hq2
          exact hs fd rfl
theorem fold_keep {e : Int} {f : List Int} : ∀ (xs : List (List Int)), NotEarlier ring len home start sts e xs → xs.foldl (stepF ring len home start sts) (some (f, e)) = some (f, e)
  | [], _ => rfl
  | x :: r, h => by
    have st : stepF ring len home start sts (some (f, e)) x = some (f, e) := by
      unfold stepF
      cases c : endsOf ring len home start sts x with
      | none => rfl
      | some e' =>
        have := h x (List.mem_cons_self ..) e' c
        show (if e' < e then some (x, e') else some (f, e)) = _
        rw [if_neg (by omega)]
    rw [List.foldl_cons, st]
    exact fold_keep r fun y hy => h y (List.mem_cons_of_mem _ hy)
theorem first_some {e : Int} (h : leastOf ring len sts home start [] = some e) : firstOf ring len home start sts = some (bestGo ring len home start sts e sts.length, e) := by
  obtain ⟨a, b, h1, h2, h3⟩ := best_in ring len home start sts h sts.length 0 (by omega)
  have h1' : deep sts.length sts.length [] = a ++ bestGo ring len home start sts e sts.length :: b := h1
  obtain ⟨ok, hl, hle⟩ := best_go ring len home start sts h sts.length (Nat.le_refl _)
  have en : endsOf ring len home start sts (bestGo ring len home start sts e sts.length) = some e := (least_full ring len home start sts ok hl).symm.trans hle
  unfold firstOf
  rw [orders_all, h1', List.foldl_append, List.foldl_cons]
  have st : stepF ring len home start sts (a.foldl (stepF ring len home start sts) none) (bestGo ring len home start sts e sts.length) = some (bestGo ring len home start sts e sts.length, e) := by
    have fl := fold_later ring len home start sts a h2 none (fun _ z => (by cases z))
    generalize a.foldl (stepF ring len home start sts) none = s0 at fl ⊢
    unfold stepF
    rw [en]
    cases s0 with
    | none => rfl
    | some p =>
      have lt := fl p rfl
      show (if e < p.2 then some (bestGo ring len home start sts e sts.length, e) else some (p.1, p.2)) = _
      rw [if_pos lt]
  rw [st]
  exact fold_keep ring len home start sts b h3
theorem first_none (h : leastOf ring len sts home start [] = none) : firstOf ring len home start sts = none := by
  unfold firstOf
  rw [orders_all]
  have all : ∀ x ∈ deep sts.length sts.length [], endsOf ring len home start sts x = none := by
    intro x hx
    cases c : endsOf ring len home start sts x with
    | none => rfl
    | some e =>
      obtain ⟨l, g, _⟩ := ends_ge ring len home start sts c sts.length [] (ordOk_nil _) (by rw [List.length_nil, Nat.zero_add]) hx
      rw [h] at g
      cases g
  generalize deep sts.length sts.length [] = xs at all
  induction xs with
  | nil => rfl
  | cons x r ih =>
    have st : stepF ring len home start sts none x = none := by unfold stepF; rw [all x (List.mem_cons_self ..)]
    rw [List.foldl_cons, st]
    exact ih fun y hy => all y (List.mem_cons_of_mem _ hy)
theorem first_is : firstOf ring len home start sts = (leastOf ring len sts home start []).map fun e => (bestGo ring len home start sts e sts.length, e) := by
  cases c : leastOf ring len sts home start [] with
  | none => exact first_none ring len home start sts c
  | some e => exact first_some ring len home start sts c
end

theorem StopsR.take {K : PySem.W.Frag} {H : Hp} : ∀ {ps : List Addr} {sts : List Stp} (k : Nat), StopsR K H ps sts → StopsR K H (ps.take k) (sts.take k)
  | _, _, 0, _ => .nil
  | [], [], _ + 1, _ => .nil
  | [], _ :: _, _ + 1, h => by cases h
  | _ :: _, [], _ + 1, h => by cases h
  | _ :: _, _ :: _, k + 1, h => by
    cases h with
    | cons a b => exact .cons a (StopsR.take k b)
theorem StopsR.app {K : PySem.W.Frag} {H : Hp} {qs : List Addr} {sts2 : List Stp} (h2 : StopsR K H qs sts2) : ∀ {ps : List Addr} {sts : List Stp}, StopsR K H ps sts → StopsR K H (ps ++ qs) (sts ++ sts2)
  | [], [], _ => h2
  | [], _ :: _, h => by cases h
  | _ :: _, [], h => by cases h
  | _ :: _, _ :: _, h => by
    cases h with
    | cons a b => exact .cons a (StopsR.app h2 b)
theorem cut_most {xs : List V} (h : 0 < xs.length) : cutV xs none (some (-1 : Int)) = xs.take (xs.length - 1) := by
  unfold cutV
  have e : HT.sIx xs.length xs.length (some (-1 : Int)) = xs.length - 1 := by
    show (if (-1 : Int) < 0 then ((-1 : Int) + (xs.length : Int)).toNat else min (-1 : Int).toNat xs.length) = _
    rw [if_pos (by decide)]
    omega
  rw [e, HT.sIx_none]
  rfl
/-- the last one taken out, the first one put there -/
theorem cut_twin {K : PySem.W.Frag} {H : Hp} {ps : List Addr} {sts : List Stp} (h : StopsR K H ps sts) (h1 : 1 < ps.length) :
    ∃ qs sts2, cutV (ps.map V.ref) none (some (-1 : Int)) ++ cutV (ps.map V.ref) none (some (1 : Int)) = qs.map V.ref ∧ StopsR K H qs sts2 ∧ sts2.length = sts.length ∧ ∀ s ∈ sts2, s ∈ sts := by
  have lm : (ps.map V.ref).length = ps.length := List.length_map _
  have lps := h.len
  refine ⟨ps.take (ps.length - 1) ++ ps.take 1, sts.take (ps.length - 1) ++ sts.take 1, ?_, (h.take 1).app (h.take _), ?_, ?_⟩
  · rw [cut_most (by omega), List.map_append, List.map_take, List.map_take, lm]
    congr 1
    exact cut_to (xs := ps.map V.ref) (k := 1) (by omega)
  · rw [List.length_append, List.length_take, List.length_take]
    omega
  · intro s hs
    rcases List.mem_append.mp hs with m | m <;> exact List.mem_of_mem_take m
def clashD (ks : List Int) : PyData := .tuple [.str "clash", .tuple (ks.map PyData.int)]
theorem strOk_clash2 : PyData.strOk "clash" = true := by decide +kernel
theorem shaped_clash (ks : List Int) : SeqAt.shaped (clashD ks) = true := by
  have h1 := canLay_ints ks
  have h2 := depth_ints ks
  have hs := strOk_clash2
  unfold SeqAt.shaped clashD
  rw [Bool.and_eq_true]
  refine ⟨by simp [PyData.canLay0, PyData.canLayAll0, hs, h1], decide_eq_true ?_⟩
  simp only [PyData.depth, PyData.depthAll]
  omega
theorem clash_dp {K : PySem.W.Frag} {H : Hp} {p c : Addr} {ks : List Int} (hp : SqT K H p [.str "clash", .ref c]) (hc : SqT K H c (ks.map V.int)) : Dp K H (.ref p) (clashD ks) := .tup hp (.cons (.str _) (.cons (.tup hc (ints_all ks)) .nil))
def tourD (os : List Int) (e : Int) : PyData := .tuple [.str "tour", intsD os, .int e]
theorem strOk_tour : PyData.strOk "tour" = true := by decide +kernel
theorem shaped_tour (os : List Int) (e : Int) : SeqAt.shaped (tourD os e) = true := by
  have h1 := canLay_ints os
  have h2 := depth_ints os
  have hs := strOk_tour
  unfold SeqAt.shaped tourD intsD
  rw [Bool.and_eq_true]
  refine ⟨by simp [PyData.canLay0, PyData.canLayAll0, hs, h1], decide_eq_true ?_⟩
  simp only [PyData.depth, PyData.depthAll]
  omega
theorem tour_dp {K : PySem.W.Frag} {H : Hp} {p o : Addr} {os : List Int} {e : Int} (hp : SqT K H p [.str "tour", .ref o, .int e]) (ho : SqL K H o (os.map V.int)) : Dp K H (.ref p) (tourD os e) := .tup hp (.cons (.str _) (.cons (ints_dp ho) (.cons (.int _) .nil)))

/-! ### texts -/
abbrev S (l : List Nat) : Str := ⟨l.toArray⟩
theorem tl_S (l : List Nat) : tl (S l) = l := rfl
theorem S_tl (x : Str) : S (tl x) = x := mk_tl x
theorem S_app (a b : List Nat) : S a ++ S b = S (a ++ b) := ext_tl (by rw [tl_append])
theorem S_len (l : List Nat) : (S l).length = l.length := len_tl (S l)
theorem S_inj {a b : List Nat} (h : S a = S b) : a = b := congrArg tl h
theorem str_S {a b : List Nat} : V.str (S a) = V.str (S b) ↔ a = b := ⟨fun h => S_inj (V.str.inj h), fun h => by rw [h]⟩
def num (n : Int) : List Nat := numL n.toNat
theorem S_num {n : Int} (h : 0 ≤ n) : (Str.ofString (toString n)) = S (num n) := by
  refine ext_tl ?_
  obtain ⟨k, rfl⟩ : ∃ k : Nat, n = k := ⟨n.toNat, by omega⟩
  rw [tl_num]
  rfl
theorem num_digit {n : Int} {c : Nat} (h : c ∈ num n) : 48 ≤ c ∧ c ≤ 57 := by
  have := numL_digits n.toNat c h
  omega
theorem num_ne (n : Int) : num n ≠ [] := numL_ne _
theorem num_len {n : Int} (h0 : 0 ≤ n) (h1 : n < 1000000000000000) : (num n).length ≤ 15 := numL_len (by decide) (by omega)
theorem num_inj {a b : Int} (ha : 0 ≤ a) (hb : 0 ≤ b) (h : num a = num b) : a = b := by
  have := numL_inj h
  omega
theorem numL_head : ∀ n : Nat, 1 ≤ n → ∃ c r, numL n = c :: r ∧ c ≠ 48 := by
  intro n
  induction n using Nat.strongRecOn with
  | _ n ih =>
    intro h1
    by_cases h : n < 10
    · exact ⟨48 + n, [], numL_lt h, by omega⟩
    · obtain ⟨c, r, e, ne⟩ := ih (n / 10) (by omega) (by omega)
      exact ⟨c, r ++ [48 + n % 10], by rw [numL_step (by omega), e]; rfl, ne⟩
theorem num_head {n : Int} {r : List Nat} (h : num n = 48 :: r) : num n = [48] := by
  by_cases c : 1 ≤ n.toNat
  · obtain ⟨d, s, e, ne⟩ := numL_head n.toNat c
    unfold num at h
    rw [e] at h
    exact absurd (List.cons.inj h).1 ne
  · unfold num
    rw [show n.toNat = 0 by omega]
    exact numL_lt (by decide)
theorem num_step {n : Int} (h : 9 < n) : num n = num (n / 10) ++ [48 + (n % 10).toNat] := by
  unfold num
  rw [numL_step (by omega)]
  have e1 : n.toNat / 10 = (n / 10).toNat := by omega
  have e2 : n.toNat % 10 = (n % 10).toNat := by omega
  rw [e1, e2]
theorem num_lt {n : Int} (h0 : 0 ≤ n) (h : n ≤ 9) : num n = [48 + n.toNat] := numL_lt (by omega)
theorem num_int {n : Int} (h0 : 0 ≤ n) (h1 : (num n).length ≤ 4300) : PySem.intText? (S (num n)) = some n := by
  have z := int_num h1
  have e : ((n.toNat : Nat) : Int) = n := by omega
  rw [e, S_num h0] at z
  exact z
/-- the digits' text, sign by sign -/
def figs : List Nat := [48, 49, 50, 51, 52, 53, 54, 55, 56, 57]
theorem figs_is : (Str.ofString "0123456789") = S figs := by decide +kernel
theorem mem_figs {c : Nat} : c ∈ figs ↔ 48 ≤ c ∧ c ≤ 57 := by
  unfold figs
  simp only [List.mem_cons, List.not_mem_nil, or_false]
  omega
/-! #### a slice by steps -/
def pickI {α : Type} (xs : List α) (is : List Nat) : List α := is.filterMap fun i => xs[i]?
theorem Vals.at {xs : List V} {us : List Value} (h : Vals xs us) : ∀ i : Nat, (xs[i]? = none ∧ us[i]? = none) ∨ ∃ x u, xs[i]? = some x ∧ us[i]? = some u ∧ RelV x u := by
  induction h with
  | nil => exact fun i => .inl ⟨by simp, by simp⟩
  | cons a b ih =>
    intro i
    cases i with
    | zero => exact .inr ⟨_, _, rfl, rfl, a⟩
    | succ j => exact ih j
theorem vals_pickI {xs : List V} {us : List Value} (h : Vals xs us) : ∀ is : List Nat, Vals (pickI xs is) (is.filterMap fun i => us[i]?)
  | [] => .nil
  | i :: r => by
    have ih := vals_pickI h r
    unfold pickI at ih ⊢
    rw [List.filterMap_cons, List.filterMap_cons]
    rcases Vals.at h i with ⟨e1, e2⟩ | ⟨x, u, e1, e2, e3⟩
    · rw [e1, e2]; exact ih
    · rw [e1, e2]; exact .cons e3 ih
def stepIx (lo hi : Option Int) (st : Int) (n : Nat) : List Nat := sliceRange (sliceBounds lo hi (some st) n).1 (sliceBounds lo hi (some st) n).2.1 (sliceBounds lo hi (some st) n).2.2
def tStep (K : PySem.W.Frag) (te : TE) (tlo thi : TO) (st : Int) : TE := fun σ H Q => te σ H fun x H1 => tlo σ H1 fun lo H2 => thi σ H2 fun hi H3 => ∃ a xs, x = .ref a ∧ SqL K H3 a xs ∧ (pickI xs (stepIx lo hi st xs.length)).length ≤ sizeLine ∧ ∀ p, H3 p = none → Q (.ref p) (upd H3 p (.lst (pickI xs (stepIx lo hi st xs.length))))
theorem pe_sliceStep {X : Cx} {e : Expr} {lo hi : Option Expr} {te : TE} {tlo thi : TO} {st : Int} {k : Nat} {p1 p2 pos : Pos} (h0 : st ≠ 0) (he : PE X e te) (hlo : PO X lo tlo) (hhi : PO X hi thi) :
    PE X (.Subscript e (.Slice lo hi (some (.Constant (.int st) k p1)) p2) pos) (tStep X.K te tlo thi st) := by
  refine ⟨fun pins0 s0 σ0 H0 Q0 I0 asked => Subscript_ (thn (he.run pins0 s0 σ0 H0 _ I0 asked) ?_)⟩
  rintro v s1 ⟨x, H1, I1, r1, q1⟩
  have hst : PO X (some (.Constant (.int st) k p1)) (tPart (tC (.int st))) := po_some pe_int
  refine wpAny_Slice (thn (hlo.run pins0 s1 σ0 H1 _ I1 q1) ?_)
  rintro vl s2 ⟨l, H2, I2, pl, q2⟩
  refine thn (hhi.run pins0 s2 σ0 H2 _ I2 q2) ?_
  rintro vu s3 ⟨u, H3, I3, pu, a, xs, rfl, hx, hz, wish⟩
  cases r1
  refine thn (hst.run pins0 s3 σ0 H3 (fun o G => o = some st ∧ G = H3) I3 ⟨st, rfl, rfl, rfl⟩) ?_
  rintro vs s4 ⟨o, H4, I4, ps, rfl, rfl⟩
  have J : L2.Inv X pins0 σ0 H4 { s4 with heap := s4.heap.push { cls := .type "slice", data := .fields #[vl, vu, vs] } } := I4.kept (t' := s4.toks) fun _ _ z => Heap.get?_push_of_some _ z
  obtain ⟨its, rv, isL, less⟩ := J.list hx
  have long := rv.length
  show wpAny (model X.prog X.w) X.A (subscriptTail e (.Slice lo hi (some (.Constant (.int st) k p1)) p2) (.ref a) (.ref s4.heap.objs.size)) _ _ _
  refine tail_any (ops := [.ref a, .ref s4.heap.objs.size]) isL.isList.typeIs PySem.slot_list_getitem.lookup ?_ (by with_unfolding_all rfl)
  refine wpAny_getItem_list_slice isL.isList (Heap.IsSliceOf.new _ vl vu vs) pl pu ps (fun z => h0 (Option.some.inj z)) ?_ (by rw [List.size_toArray]; omega)
  have made : (slicePick its.toArray l u (some st)) = ((stepIx l u st xs.length).filterMap fun i => its[i]?).toArray := by
    unfold slicePick stepIx
    rw [List.size_toArray, ← long]
    congr 2
    funext i
    exact List.getElem?_toArray
  rw [made]
  refine ⟨.ref _, _, J.laid (t' := s4.toks) (o := .lst (pickI xs (stepIx l u st xs.length))) (fun _ _ z => Heap.get?_push_of_some _ z) (Nat.le_refl _) ?_, rfl, wish _ (J.hok.fresh (Nat.le_refl _))⟩
  exact ⟨hz, _, 0, vals_pickI rv _, Heap.get?_push_size _ rfl⟩
theorem pick_ev2 {α : Type} (a b : α) : pickI [a, b] (stepIx none none 2 2) = [a] := by
  rw [show stepIx none none 2 2 = [0] by decide +kernel]; rfl
theorem pick_od2 {α : Type} (a b : α) : pickI [a, b] (stepIx (some 1) none 2 2) = [b] := by
  rw [show stepIx (some 1) none 2 2 = [1] by decide +kernel]; rfl
theorem pick_ev4 {α : Type} (a b c d : α) : pickI [a, b, c, d] (stepIx none none 2 4) = [a, c] := by
  rw [show stepIx none none 2 4 = [0, 2] by decide +kernel]; rfl
theorem pick_od4 {α : Type} (a b c d : α) : pickI [a, b, c, d] (stepIx (some 1) none 2 4) = [b, d] := by
  rw [show stepIx (some 1) none 2 4 = [1, 3] by decide +kernel]; rfl
theorem pick_ev8 {α : Type} (a b c d e f g h : α) : pickI [a, b, c, d, e, f, g, h] (stepIx none none 2 8) = [a, c, e, g] := by
  rw [show stepIx none none 2 8 = [0, 2, 4, 6] by decide +kernel]; rfl
theorem pick_od8 {α : Type} (a b c d e f g h : α) : pickI [a, b, c, d, e, f, g, h] (stepIx (some 1) none 2 8) = [b, d, f, h] := by
  rw [show stepIx (some 1) none 2 8 = [1, 3, 5, 7] by decide +kernel]; rfl
/-! #### a tuple of texts that the top has left -/
def TupC (K : PySem.W.Frag) (a : Addr) (ys : List Str) : Prop := ∃ (o : Obj) (its : Array Value) (n : Nat), K.lookup a = some o ∧ o.cls = .type "tuple" ∧ o.data = .seq its n ∧ its.size ≤ sizeLine ∧ Vals (ys.map V.str) its.toList
def strVals : List Str → List Value → Bool
  | [], [] => true
  | y :: r, .str z _ :: q => decide (z = y) && strVals r q
  | _, _ => false
theorem strVals_ok : ∀ {ys : List Str} {us : List Value}, strVals ys us = true → Vals (ys.map V.str) us
  | [], [], _ => .nil
  | y :: r, .str z t :: q, h => by
    obtain ⟨h1, h2⟩ := He.ba (show (decide (z = y) && strVals r q) = true from h)
    rw [of_decide_eq_true h1]
    exact .cons ⟨t, rfl⟩ (strVals_ok h2)
def tupCB (K : PySem.W.Frag) (a : Addr) (ys : List Str) : Bool := match K.lookup a with
  | some o => decide (o.cls = .type "tuple") && (match o.data with
    | .seq its _ => decide (its.size ≤ 64) && strVals ys its.toList
    | _ => false)
  | none => false
theorem tupCB_ok {K : PySem.W.Frag} {a : Addr} {ys : List Str} (h : tupCB K a ys = true) : TupC K a ys := by
  unfold tupCB at h
  cases e : K.lookup a with
  | none => rw [e] at h; cases h
  | some o =>
    rw [e] at h
    obtain ⟨h1, h2⟩ := He.ba h
    cases d : o.data with
    | seq its n =>
      rw [d] at h2
      obtain ⟨h3, h4⟩ := He.ba h2
      refine ⟨o, its, n, e, of_decide_eq_true h1, d, ?_, strVals_ok h4⟩
      have := of_decide_eq_true h3
      rw [sizeLine_eq]
      omega
    | _ => rw [d] at h2; cases h2
theorem TupC.sq {K : PySem.W.Frag} {a : Addr} {ys : List Str} {H : Hp} (h : TupC K a ys) : SqT K H a (ys.map V.str) := .inr h
/-! #### the rows of a day -/
theorem ends_ln (l : List Nat) : Txt.endswith (S l) (Str.ofString "\n") = decide (l.getLast? = some 10) := by
  have e : (Str.ofString "\n") = S [10] := by decide +kernel
  rw [e]
  unfold Txt.endswith
  rw [PySem.StrLaws.subAt_eq, S_len, S_len]
  show (decide (0 + 1 ≤ l.length) && ((l.drop (l.length - 1)).take 1 == [10])) = _
  rcases split_last l with rfl | ⟨r, x, rfl⟩
  · rfl
  · have d : (r ++ [x]).drop ((r ++ [x]).length - 1) = [x] := by
      rw [List.length_append, List.length_singleton, Nat.add_sub_cancel, List.drop_left]
    rw [d, List.getLast?_append, List.length_append, List.length_singleton]
    show (decide (0 + 1 ≤ r.length + 1) && ([x] == [10])) = decide ((some x : Option Nat) = some 10)
    rw [decide_eq_true (show 0 + 1 ≤ r.length + 1 by omega), Bool.true_and]
    by_cases c : x = 10
    · subst c; rfl
    · rw [decide_eq_false (fun z => c (Option.some.inj z))]
      show (x == 10 && ([] : List Nat) == []) = false
      rw [beq_eq_false_iff_ne.mpr c]
      rfl
theorem cut_last (l : List Nat) : cutS (S l) none (some (-1 : Int)) = S l.dropLast := by
  unfold cutS
  rw [S_len]
  have e : HT.sIx l.length l.length (some (-1 : Int)) = l.length - 1 := by
    show (if (-1 : Int) < 0 then ((-1 : Int) + (l.length : Int)).toNat else min (-1 : Int).toNat l.length) = _
    rw [if_pos (by decide)]
    omega
  rw [e, HT.sIx_none]
  show S ((l.drop 0).take (l.length - 1 - 0)) = _
  rw [List.drop_zero, Nat.sub_zero, List.dropLast_eq_take]
theorem split_S {l : List Nat} {c : Nat} (hc : c < 256) : (Txt.split (S l) (S [c])).map tl = spl [c] 0 [] l := by
  rw [split_spl _ _ (by rw [tl_S]; exact fun z => (by cases z)) (kind_ok (by simpa using hc))]
theorem split_is {l : List Nat} {c : Nat} (hc : c < 256) : Txt.split (S l) (S [c]) = (spl [c] 0 [] l).map S := by
  refine map_tl_inj ?_
  rw [split_S hc, List.map_map]
  exact (List.map_id _).symm
theorem split_rows {ps : List (List Nat)} {c : Nat} (hc : c < 256) (ne : ps ≠ []) (h : ∀ p ∈ ps, c ∉ p) : Txt.split (S (joinL [c] ps)) (S [c]) = ps.map S := by
  rw [split_is hc, spl_join ne h]
/-- a word that names a number -/
def NameOk (a : List Nat) : Prop := (32 ∉ a ∧ 10 ∉ a) ∧ a.length ≤ 16 ∧ ∀ c ∈ a, c < 1114112
def NumOk (m : Int) : Prop := 0 ≤ m ∧ m < 1000000000000000
/-- a row's words: a name, a number, a name, .. -/
inductive RowOk : List (List Nat) → List Int → List (List Nat) → Prop
  | one (a : List Nat) (m : Int) (ha : NameOk a) (hm : NumOk m) : RowOk [a] [m] [a, num m]
  | two (a b : List Nat) (m n : Int) (ha : NameOk a) (hb : NameOk b) (hm : NumOk m) (hn : NumOk n) : RowOk [a, b] [m, n] [a, num m, b, num n]
  | four (a b c d : List Nat) (m n o p : Int) (ha : NameOk a) (hb : NameOk b) (hc : NameOk c) (hd : NameOk d) (hm : NumOk m) (hn : NumOk n) (ho : NumOk o) (hp : NumOk p) : RowOk [a, b, c, d] [m, n, o, p] [a, num m, b, num n, c, num o, d, num p]
theorem num_free {m : Int} {c : Nat} (h : c < 48 ∨ 57 < c) : c ∉ num m := fun z => by have := num_digit z; omega
theorem RowOk.names {names : List (List Nat)} {ns : List Int} {ws : List (List Nat)} (h : RowOk names ns ws) : ∀ a ∈ names, NameOk a := by
  cases h <;> (intro z hz; simp only [List.mem_cons, List.not_mem_nil, or_false] at hz; rcases hz with rfl | rfl | rfl | rfl <;> assumption)
theorem RowOk.nums {names : List (List Nat)} {ns : List Int} {ws : List (List Nat)} (h : RowOk names ns ws) : ∀ m ∈ ns, NumOk m := by
  cases h <;> (intro z hz; simp only [List.mem_cons, List.not_mem_nil, or_false] at hz; rcases hz with rfl | rfl | rfl | rfl <;> assumption)
theorem RowOk.word {names : List (List Nat)} {ns : List Int} {ws : List (List Nat)} (h : RowOk names ns ws) : ∀ w ∈ ws, (∃ a ∈ names, w = a) ∨ ∃ m ∈ ns, w = num m := by
  cases h <;> (intro z hz; simp only [List.mem_cons, List.not_mem_nil, or_false] at hz ⊢; rcases hz with rfl | rfl | rfl | rfl | rfl | rfl | rfl | rfl <;> simp)
theorem RowOk.len {names : List (List Nat)} {ns : List Int} {ws : List (List Nat)} (h : RowOk names ns ws) : ws.length = 2 * names.length ∧ ns.length = names.length ∧ names.length ≤ 4 ∧ 1 ≤ names.length := by cases h <;> exact ⟨rfl, rfl, by simp, by simp⟩
theorem RowOk.ev {α : Type} {f : List Nat → α} {names : List (List Nat)} {ns : List Int} {ws : List (List Nat)} (h : RowOk names ns ws) : pickI (ws.map f) (stepIx none none 2 (ws.map f).length) = names.map f := by
  cases h
  · exact pick_ev2 _ _
  · exact pick_ev4 _ _ _ _
  · exact pick_ev8 _ _ _ _ _ _ _ _
theorem RowOk.od {α : Type} {f : List Nat → α} {names : List (List Nat)} {ns : List Int} {ws : List (List Nat)} (h : RowOk names ns ws) : pickI (ws.map f) (stepIx (some 1) none 2 (ws.map f).length) = ns.map fun m => f (num m) := by
  cases h
  · exact pick_od2 _ _
  · exact pick_od4 _ _ _ _
  · exact pick_od8 _ _ _ _ _ _ _ _
theorem RowOk.free {names : List (List Nat)} {ns : List Int} {ws : List (List Nat)} (h : RowOk names ns ws) : ∀ w ∈ ws, 32 ∉ w ∧ 10 ∉ w := by
  intro w hw
  rcases h.word w hw with ⟨a, ha, rfl⟩ | ⟨m, hm, rfl⟩
  · exact (h.names _ ha).1
  · exact ⟨num_free (by decide), num_free (by decide)⟩
theorem joinL_len (s : List Nat) (k : Nat) : ∀ ws : List (List Nat), (∀ w ∈ ws, w.length ≤ k) → (joinL s ws).length ≤ ws.length * (k + s.length)
  | [], _ => Nat.zero_le _
  | [p], h => by
    have := h p (List.mem_cons_self ..)
    show p.length ≤ 1 * (k + s.length)
    omega
  | p :: q :: r, h => by
    have ih := joinL_len s k (q :: r) fun w hw => h w (List.mem_cons_of_mem _ hw)
    have := h p (List.mem_cons_self ..)
    show (p ++ (s ++ joinL s (q :: r))).length ≤ _
    rw [List.length_append, List.length_append, List.length_cons (a := p), Nat.succ_mul]
    omega
theorem joinL_mem {s c : Nat} : ∀ ws : List (List Nat), c ∈ joinL [s] ws → c = s ∨ ∃ w ∈ ws, c ∈ w
  | [], h => by cases h
  | [p], h => .inr ⟨p, List.mem_cons_self .., h⟩
  | p :: q :: r, h => by
    rcases List.mem_append.mp (show c ∈ p ++ ([s] ++ joinL [s] (q :: r)) from h) with h | h
    · exact .inr ⟨p, List.mem_cons_self .., h⟩
    · rcases List.mem_append.mp h with h | h
      · exact .inl (List.mem_singleton.mp h)
      · rcases joinL_mem (q :: r) h with h | ⟨w, hw, h⟩
        · exact .inl h
        · exact .inr ⟨w, List.mem_cons_of_mem _ hw, h⟩
theorem RowOk.size {names : List (List Nat)} {ns : List Int} {ws : List (List Nat)} (h : RowOk names ns ws) : (joinL [32] ws).length ≤ 136 := by
  have h1 := joinL_len [32] 16 ws fun w hw => by
    rcases h.word w hw with ⟨a, ha, rfl⟩ | ⟨m, hm, rfl⟩
    · exact (h.names _ ha).2.1
    · have z := h.nums m hm
      have := num_len z.1 z.2
      omega
  have h2 := h.len
  have e : ([32] : List Nat).length = 1 := rfl
  rw [e] at h1
  omega
theorem RowOk.noln {names : List (List Nat)} {ns : List Int} {ws : List (List Nat)} (h : RowOk names ns ws) : 10 ∉ joinL [32] ws := fun z => by
  rcases joinL_mem ws z with e | ⟨w, hw, m⟩
  · cases e
  · exact (h.free w hw).2 m
def strsD (ls : List (List Nat)) : PyData := .tuple (ls.map fun x => PyData.str (S x))
theorem strs_all {K : PySem.W.Frag} {H : Hp} : ∀ ls : List (List Nat), DpAll K H (ls.map fun x => V.str (S x)) (ls.map fun x => PyData.str (S x))
  | [] => .nil
  | x :: r => .cons (.str _) (strs_all r)
theorem strs_dp {K : PySem.W.Frag} {H : Hp} {o : Addr} {ls : List (List Nat)} (h : SqT K H o (ls.map fun x => V.str (S x))) : Dp K H (.ref o) (strsD ls) := .tup h (strs_all ls)
theorem strOk_S {x : List Nat} (h : ∀ c ∈ x, c < 1114112) : PyData.strOk (S x) = true := by
  unfold PyData.strOk
  simpa using h
theorem shaped_strs {ls : List (List Nat)} (h : ∀ x ∈ ls, ∀ c ∈ x, c < 1114112) : SeqAt.shaped (strsD ls) = true := by
  have h1 : ∀ ls : List (List Nat), (∀ x ∈ ls, ∀ c ∈ x, c < 1114112) → PyData.canLayAll0 (ls.map fun x => PyData.str (S x)) = true := by
    intro ls
    induction ls with
    | nil => intro _; simp [PyData.canLayAll0]
    | cons x r ih =>
      intro hh
      have a := strOk_S (hh x (List.mem_cons_self ..))
      have b := ih fun y hy => hh y (List.mem_cons_of_mem _ hy)
      simp only [List.map_cons, PyData.canLayAll0, b, Bool.and_true]
      simpa [PyData.canLay0] using a
  have h2 : ∀ ls : List (List Nat), PyData.depthAll (ls.map fun x => PyData.str (S x)) ≤ 2 := by
    intro ls
    induction ls with
    | nil => simp [PyData.depthAll]
    | cons x r ih =>
      simp only [List.map_cons, PyData.depthAll, PyData.depth]
      omega
  have d := h2 ls
  unfold SeqAt.shaped strsD
  rw [Bool.and_eq_true]
  refine ⟨by simpa [PyData.canLay0] using h1 ls h, decide_eq_true ?_⟩
  simp only [PyData.depth]
  omega
def wHome : List Nat := [104, 111, 109, 101]
def wAt : List Nat := [97, 116]
def wStop : List Nat := [115, 116, 111, 112]
def wFrom : List Nat := [102, 114, 111, 109]
def wTo : List Nat := [116, 111]
def wFor : List Nat := [102, 111, 114]
def stopW (s : Stp) : List (List Nat) := [wStop, num s.1, wFrom, num s.2.1, wTo, num s.2.2.1, wFor, num s.2.2.2]
def rowsW (ring : Bool) (len home start : Int) (sts : List Stp) : List (List (List Nat)) := [tl (wordOf ring), num len] :: [wHome, num home, wAt, num start] :: sts.map stopW
def dayT (ring : Bool) (len home start : Int) (sts : List Stp) : List Nat := joinL [10] ((rowsW ring len home start sts).map (joinL [32])) ++ [10]
theorem zero_S : (Str.ofString "0") = S [48] := by decide +kernel
theorem sp_S : (Str.ofString " ") = S [32] := by decide +kernel
theorem ln_S : (Str.ofString "\n") = S [10] := by decide +kernel
theorem name_word (ring : Bool) : NameOk (tl (wordOf ring)) := by
  cases ring <;> (refine ⟨⟨by decide +kernel, by decide +kernel⟩, by decide +kernel, by decide +kernel⟩)
theorem name_home : NameOk wHome := ⟨⟨by decide, by decide⟩, by decide, by decide⟩
theorem name_at : NameOk wAt := ⟨⟨by decide, by decide⟩, by decide, by decide⟩
theorem name_stop : NameOk wStop := ⟨⟨by decide, by decide⟩, by decide, by decide⟩
theorem name_from : NameOk wFrom := ⟨⟨by decide, by decide⟩, by decide, by decide⟩
theorem name_to : NameOk wTo := ⟨⟨by decide, by decide⟩, by decide, by decide⟩
theorem name_for : NameOk wFor := ⟨⟨by decide, by decide⟩, by decide, by decide⟩
theorem row_stop {ring : Bool} {len : Int} {s : Stp} (l2 : len ≤ 1000000000) (h : goodStop ring len s) : RowOk [wStop, wFrom, wTo, wFor] [s.1, s.2.1, s.2.2.1, s.2.2.2] (stopW s) := by
  obtain ⟨⟨a0, a1⟩, b0, b1, c1, d0, d1⟩ := h
  have a2 : placesOf ring len ≤ len + 1 := by unfold placesOf; split <;> omega
  refine .four _ _ _ _ _ _ _ _ name_stop name_from name_to name_for ⟨a0, ?_⟩ ⟨b0, ?_⟩ ⟨?_, ?_⟩ ⟨d0, ?_⟩ <;> omega
/-- the words of a day's rows, with their numbers -/
theorem rows_ok {ring : Bool} {len home start : Int} {sts : List Stp} (g : GoodDay ring len home start sts) : RowOk [tl (wordOf ring)] [len] [tl (wordOf ring), num len] ∧ RowOk [wHome, wAt] [home, start] [wHome, num home, wAt, num start] ∧ ∀ s ∈ sts, RowOk [wStop, wFrom, wTo, wFor] [s.1, s.2.1, s.2.2.1, s.2.2.2] (stopW s) := by
  obtain ⟨l1, l2, ⟨h0, h1⟩, ⟨s0, s1⟩, gs, _⟩ := g
  have a2 : placesOf ring len ≤ len + 1 := by unfold placesOf; split <;> omega
  refine ⟨.one _ _ (name_word ring) ⟨by omega, by omega⟩, .two _ _ _ _ name_home name_at ⟨h0, by omega⟩ ⟨s0, by omega⟩, fun s hs => row_stop l2 (gs s hs)⟩
theorem rows_all {ring : Bool} {len home start : Int} {sts : List Stp} (g : GoodDay ring len home start sts) : ∀ ws ∈ rowsW ring len home start sts, (joinL [32] ws).length ≤ 136 ∧ 10 ∉ joinL [32] ws := by
  obtain ⟨r1, r2, r3⟩ := rows_ok g
  intro ws hw
  rcases List.mem_cons.mp hw with rfl | hw
  · exact ⟨r1.size, r1.noln⟩
  rcases List.mem_cons.mp hw with rfl | hw
  · exact ⟨r2.size, r2.noln⟩
  obtain ⟨s, hs, rfl⟩ := List.mem_map.mp hw
  exact ⟨(r3 s hs).size, (r3 s hs).noln⟩
theorem dayT_size {ring : Bool} {len home start : Int} {sts : List Stp} (g : GoodDay ring len home start sts) : (dayT ring len home start sts).length ≤ 1300 := by
  have h7 : sts.length ≤ 7 := g.2.2.2.2.2
  have h := joinL_len [10] 136 ((rowsW ring len home start sts).map (joinL [32])) fun w hw => by
    obtain ⟨ws, hws, rfl⟩ := List.mem_map.mp hw
    exact (rows_all g ws hws).1
  have l : (rowsW ring len home start sts).length = sts.length + 2 := by unfold rowsW; rw [List.length_cons, List.length_cons, List.length_map]
  rw [List.length_map, l] at h
  have e : ([10] : List Nat).length = 1 := rfl
  unfold dayT
  rw [List.length_append, e]
  rw [e] at h
  omega
theorem dayT_ends (ring : Bool) (len home start : Int) (sts : List Stp) : (dayT ring len home start sts).getLast? = some 10 := by
  unfold dayT
  rw [List.getLast?_append]
  rfl
theorem dayT_cut (ring : Bool) (len home start : Int) (sts : List Stp) : (dayT ring len home start sts).dropLast = joinL [10] ((rowsW ring len home start sts).map (joinL [32])) := by
  unfold dayT
  rw [List.dropLast_concat]
theorem words_home : (["home", "at"] : List Str).map V.str = [wHome, wAt].map fun x => V.str (S x) := by
  have h1 : (Str.ofString "home") = S wHome := by decide +kernel
  have h2 : (Str.ofString "at") = S wAt := by decide +kernel
  show [V.str (Str.ofString "home"), V.str (Str.ofString "at")] = _
  rw [h1, h2]
  rfl
theorem words_stop : (["stop", "from", "to", "for"] : List Str).map V.str = [wStop, wFrom, wTo, wFor].map fun x => V.str (S x) := by
  have h1 : (Str.ofString "stop") = S wStop := by decide +kernel
  have h2 : (Str.ofString "from") = S wFrom := by decide +kernel
  have h3 : (Str.ofString "to") = S wTo := by decide +kernel
  have h4 : (Str.ofString "for") = S wFor := by decide +kernel
  show [V.str (Str.ofString "stop"), V.str (Str.ofString "from"), V.str (Str.ofString "to"), V.str (Str.ofString "for")] = _
  rw [h1, h2, h3, h4]
  rfl
theorem log_small {i : Int} (h0 : 0 ≤ i) (h1 : i < 1000000000000000) : i.natAbs.log2 < 1920 := by
  by_cases c : i.natAbs = 0
  · rw [c]; decide
  · refine (Nat.log2_lt c).mpr (Nat.lt_of_lt_of_le (show i.natAbs < 2 ^ 50 by omega) (Nat.pow_le_pow_right (by decide) (by decide)))
theorem lit_len : (Str.ofString " ").length = 1 ∧ (Str.ofString "\n").length = 1 ∧ (Str.ofString "home ").length = 5 ∧ (Str.ofString " at ").length = 4 ∧ (Str.ofString "stop ").length = 5 ∧ (Str.ofString " from ").length = 6 ∧ (Str.ofString " to ").length = 4 ∧ (Str.ofString " for ").length = 5 ∧ Str.empty.length = 0 := by decide +kernel
theorem lits_S : (Str.ofString "home ") = S (wHome ++ [32]) ∧ (Str.ofString " at ") = S ([32] ++ wAt ++ [32]) ∧ (Str.ofString "stop ") = S (wStop ++ [32]) ∧ (Str.ofString " from ") = S ([32] ++ wFrom ++ [32]) ∧ (Str.ofString " to ") = S ([32] ++ wTo ++ [32]) ∧ (Str.ofString " for ") = S ([32] ++ wFor ++ [32]) ∧ Str.empty = S [] := by decide +kernel
theorem join_rows : ∀ {ps : List (List Nat)}, ps ≠ [] → joinL [] (ps.map fun p => p ++ [10]) = joinL [10] ps ++ [10]
  | [], h => absurd rfl h
  | [p], _ => rfl
  | p :: q :: r, _ => by
    have ih := join_rows (ps := q :: r) (by simp)
    show (p ++ [10]) ++ ([] ++ joinL [] ((q :: r).map fun p => p ++ [10])) = (p ++ ([10] ++ joinL [10] (q :: r))) ++ [10]
    rw [ih, List.nil_append, List.append_assoc, List.append_assoc, List.append_assoc]
theorem join_day (ring : Bool) (len home start : Int) (sts : List Stp) : Txt.join Str.empty ((rowsW ring len home start sts).map fun ws => S (joinL [32] ws ++ [10])) = S (dayT ring len home start sts) := by
  refine ext_tl ?_
  rw [join_eq, tl_join, List.map_map]
  show joinL [] ((rowsW ring len home start sts).map fun ws => joinL [32] ws ++ [10]) = dayT ring len home start sts
  unfold dayT
  rw [← join_rows (by unfold rowsW; simp), List.map_map]
  rfl
theorem road_row (ring : Bool) {len : Int} (l0 : 0 ≤ len) : Str.empty ++ wordOf ring ++ Str.ofString " " ++ Str.ofString (toString len) ++ Str.ofString "\n" = S (joinL [32] [tl (wordOf ring), num len] ++ [10]) := by
  rw [S_num l0, sp_S, ln_S]
  refine ext_tl ?_
  simp only [tl_append, tl_S]
  show ((([] ++ tl (wordOf ring)) ++ [32]) ++ num len) ++ [10] = (tl (wordOf ring) ++ ([32] ++ num len)) ++ [10]
  rw [List.nil_append, List.append_assoc (tl (wordOf ring))]
theorem home_row {home start : Int} (h0 : 0 ≤ home) (s0 : 0 ≤ start) : Str.empty ++ Str.ofString "home " ++ Str.ofString (toString home) ++ Str.ofString " at " ++ Str.ofString (toString start) ++ Str.ofString "\n" = S (joinL [32] [wHome, num home, wAt, num start] ++ [10]) := by
  obtain ⟨a1, a2, a3, a4, a5, a6, a7⟩ := lits_S
  rw [S_num h0, S_num s0, ln_S, a1, a2, a7]
  refine ext_tl ?_
  simp only [tl_append, tl_S]
  show _ = (wHome ++ ([32] ++ (num home ++ ([32] ++ (wAt ++ ([32] ++ num start)))))) ++ [10]
  simp only [List.nil_append, List.append_assoc]
theorem stop_row {a b c d : Int} (h0 : 0 ≤ a) (h1 : 0 ≤ b) (h2 : 0 ≤ c) (h3 : 0 ≤ d) : Str.empty ++ Str.ofString "stop " ++ Str.ofString (toString a) ++ Str.ofString " from " ++ Str.ofString (toString b) ++ Str.ofString " to " ++ Str.ofString (toString c) ++ Str.ofString " for " ++ Str.ofString (toString d) ++ Str.ofString "\n" = S (joinL [32] (stopW (a, b, c, d)) ++ [10]) := by
  obtain ⟨a1, a2, a3, a4, a5, a6, a7⟩ := lits_S
  rw [S_num h0, S_num h1, S_num h2, S_num h3, ln_S, a3, a4, a5, a6, a7]
  refine ext_tl ?_
  simp only [tl_append, tl_S]
  show _ = (wStop ++ ([32] ++ (num a ++ ([32] ++ (wFrom ++ ([32] ++ (num b ++ ([32] ++ (wTo ++ ([32] ++ (num c ++ ([32] ++ (wFor ++ ([32] ++ num d)))))))))))))) ++ [10]
  simp only [List.nil_append, List.append_assoc]
theorem sum_le {α : Type} (f : α → Nat) (k : Nat) : ∀ xs : List α, (∀ x ∈ xs, f x ≤ k) → (xs.map f).sum ≤ xs.length * k
  | [], _ => by simp
  | x :: r, h => by
    have ih := sum_le f k r fun y hy => h y (List.mem_cons_of_mem _ hy)
    have := h x (List.mem_cons_self ..)
    rw [List.map_cons, List.sum_cons, List.length_cons, Nat.succ_mul]
    omega
theorem rows_sum {ring : Bool} {len home start : Int} {sts : List Stp} (g : GoodDay ring len home start sts) : ((((rowsW ring len home start sts).map fun ws => S (joinL [32] ws ++ [10])).map fun x => x.length).sum + ((rowsW ring len home start sts).map fun ws => S (joinL [32] ws ++ [10])).length * (Str.ofString "").length) ≤ 16777216 := by
  have h7 : sts.length ≤ 7 := g.2.2.2.2.2
  have l : ((rowsW ring len home start sts).map fun ws => S (joinL [32] ws ++ [10])).length = sts.length + 2 := by unfold rowsW; rw [List.length_map, List.length_cons, List.length_cons, List.length_map]
  have h := sum_le (fun x : Str => x.length) 137 ((rowsW ring len home start sts).map fun ws => S (joinL [32] ws ++ [10])) fun x hx => by
    obtain ⟨ws, hws, rfl⟩ := List.mem_map.mp hx
    have := (rows_all g ws hws).1
    show (S (joinL [32] ws ++ [10])).length ≤ 137
    rw [S_len, List.length_append]
    show (joinL [32] ws).length + 1 ≤ 137
    omega
  have e : (Str.ofString "").length = 0 := rfl
  rw [l] at h
  rw [l, e]
  omega

/-! ### two dicts, told apart -/
section
variable {X : Cx}
theorem dictsNe_run {prog : Program} {w : World} {A : Around} {E : Value → Shared → Prop} {s : Shared} {Ky : Type} [DecidableEq Ky] {knd : HeapKind prog w Ky} {a b : Addr} {xa xb : List (Ky × Addr × Value)} {Q : Value → Shared → Prop} (room : knd.room A.in1) (na : (a == sysModules) = false) (nb : (b == sysModules) = false)
    (da : s.heap.DictOfH knd a xa) (db : s.heap.DictOfH knd b xb) (hu : A.units < cLine) (long : xa.length = xb.length) (each : ∀ x ∈ xa, ∃ y ∈ xb, y.1 = x.1 ∧ SeqAt.EqAt A.in1 s x.2.2 y.2.2 true) (wish : Q (.bool false) s) :
    wpAny (model prog w) A (compareOp .NotEq (.ref a) (.ref b)) Q E s := by
  refine wpAny_richCompare_same_room (op := .NotEq) da.typeIs db.typeIs PySem.F.slot_dict_ne (wpAny_call_entry PySem.F.slot_dict_ne da.typeIs PySem.F.entry_dict_ne ?_ (PySem.F.args_dict_ne_2 _ _)) hu
  show wpAny _ _ (Builtin.Dict.dictSlotArgs "__ne__" ⟨[.ref a, .ref b], []⟩ >>= _) _ _ s
  refine wpAny_bind ?_
  unfold Builtin.Dict.dictSlotArgs
  refine wpAny_bind (wpAny_notOrdered_dict da.typeIs ?_)
  show wpAny _ _ (pure (Value.ref a, Value.ref b)) _ _ s
  refine wpAny_pure ?_
  refine wpAny_bind (wpAny_isInstance (T := "dict") db.typeIs PySem.F.sub_dict_dict ?_)
  simp only [Bool.not_true, Bool.false_eq_true, if_false]
  refine wpAny_bind (wpAny_pure (wpAny_bind (wpAny_pure ?_)))
  refine wpAny_bind (pairs_same room na nb da db long each ?_)
  exact wpAny_pure ⟨_, rfl, (fun x => nomatch x), by simpa using wish⟩
def rNeN (P : Program) (w : World) (K : PySem.W.Frag) : R2 := fun x y H Q => ∃ (a b : Addr) (xa xb : List NEnt), x = .ref a ∧ y = .ref b ∧ Rd H a (DN P w a xa) ∧ Rd H b (DN P w b xb) ∧ NOk H xa ∧ NOk H xb ∧ xa.length = xb.length ∧ (∀ e ∈ xa, ∃ v d, atN xb e.1 = some v ∧ Dp K H e.2.2 d ∧ Dp K H v d ∧ SeqAt.shaped d = true) ∧ Q (.bl false) H
theorem op_neN (hu : X.A.units + 65 < cLine) : OpR X (compareOp .NotEq) (rNeN X.prog X.w X.K) := by
  intro ps0 st0 σ0 H0 xr yr vr ur W0 Inv0 relx rely asked
  obtain ⟨a, b, xa, xb, rfl, rfl, isA, isB, ka, kb, long, each, wish⟩ := asked
  cases relx
  cases rely
  obtain ⟨_, na, va, pa, da⟩ := dn_get Inv0.hok isA ka
  obtain ⟨_, nb, vb, pb, db⟩ := dn_get Inv0.hok isB kb
  refine dictsNe_run (knd := nestedKind X.prog X.w) (by show X.A.units + 1 + 8 < cLine; omega) na nb da db (by omega) (by rw [← Paired.length pa, ← Paired.length pb]; exact long) (fun q hq => ?_) ⟨.bl false, H0, Inv0, rfl, wish⟩
  obtain ⟨p, hp, r1⟩ := ent_mem pa q hq
  obtain ⟨v, d, isAt, d1, d2, sh⟩ := each p hp
  obtain ⟨ad, m⟩ := atN_mem isAt
  obtain ⟨q2, hq2, r2⟩ := ent_of pb _ m
  obtain ⟨as, reads1⟩ := Dp.reads Inv0 d _ _ d1 r1.2.2
  obtain ⟨bs, reads2⟩ := Dp.reads Inv0 d _ _ d2 r2.2.2
  have same := PySem.W.keq_at (A := X.A) reads1 reads2 sh sh (by show X.A.units + 1 + 64 < cLine; omega)
  rw [SeqAt.eqv_refl d (SeqAt.canLay_of_shaped sh)] at same
  exact ⟨q2, hq2, by rw [← r2.1, ← r1.1], same⟩
/-- != of whatever is answered -/
def rNeAny (P : Program) (w : World) (K : PySem.W.Frag) : R2 := fun x y H Q => rNe x y H Q ∨ (rNeD K x y H Q ∨ rNeN P w K x y H Q)
theorem op_neAny (hu : X.A.units + 65 < cLine) : OpR X (compareOp .NotEq) (rNeAny X.prog X.w X.K) := op_ne.or ((op_neD (by omega)).or (op_neN hu))
theorem pe_or {e : Expr} {t1 t2 : TE} (h1 : PE X e t1) (h2 : PE X e t2) : PE X e (fun σ H Q => t1 σ H Q ∨ t2 σ H Q) :=
  ⟨fun pins0 s0 σ0 H0 Q0 I0 asked => asked.elim (fun a => h1.run pins0 s0 σ0 H0 Q0 I0 a) fun a => h2.run pins0 s0 σ0 H0 Q0 I0 a⟩
def rIsAny (P : Program) (w : World) (K : PySem.W.Frag) : List V → Hp → VK → Prop := fun xs H Q => rIsi K xs H Q ∨ rIsN P w K xs H Q
theorem call_isAny : CallR X (.builtin "isinstance") (rIsAny X.prog X.w X.K) := call_isi.or call_isN
end
/-! ### answers as data -/
inductive Ans where
  | rows (rs : List Row)
  | err (s : Str)
  | num (o : Option Int)
  | tab (es : List (Key × TV))
  | lst (os : Option (List Int))
  | tup (ks : Option (List Int))
  | tour (os : List Int) (e : Int)
  | clash (ks : List Int)
/-- v answers a; what of it may be changed stands where F says -/
def AnsR (P : Program) (w : World) (F : Addr → Prop) (H : Hp) (v : V) : Ans → Prop
  | .rows rs => ∃ l qs, v = .ref l ∧ F l ∧ H l = some (.lst (qs.map V.ref)) ∧ RowsR H qs rs
  | .err s => (s = "missed" ∨ s = "order") ∧ ∃ p, v = .ref p ∧ H p = some (.tup [.str s])
  | .num o => v = optV o
  | .tab es => ∃ t, v = .ref t ∧ F t ∧ TabAt P w H t es
  | .lst none => v = .non
  | .lst (some os) => ∃ p, v = .ref p ∧ F p ∧ H p = some (.lst (os.map V.int))
  | .tup none => v = .non
  | .tup (some ks) => ∃ p, v = .ref p ∧ H p = some (.tup (ks.map V.int))
  | .tour os e => ∃ p o, v = .ref p ∧ F o ∧ H p = some (.tup [.str "tour", .ref o, .int e]) ∧ H o = some (.lst (os.map V.int))
  | .clash ks => ∃ p c, v = .ref p ∧ H p = some (.tup [.str "clash", .ref c]) ∧ H c = some (.tup (ks.map V.int))
theorem AnsR.ex {P : Program} {w : World} {F : Addr → Prop} {H H' : Hp} {v : V} (e : Ex H H') : ∀ {a : Ans}, AnsR P w F H v a → AnsR P w F H' v a
  | .rows _, ⟨l, qs, h1, h2, h3, h4⟩ => ⟨l, qs, h1, h2, e _ _ h3, h4.ex e⟩
  | .err _, ⟨h0, p, h1, h2⟩ => ⟨h0, p, h1, e _ _ h2⟩
  | .num _, h => h
  | .tab _, ⟨t, h1, h2, h3⟩ => ⟨t, h1, h2, h3.ex e⟩
  | .lst none, h => h
  | .lst (some _), ⟨p, h1, h2, h3⟩ => ⟨p, h1, h2, e _ _ h3⟩
  | .tup none, h => h
  | .tup (some _), ⟨p, h1, h2⟩ => ⟨p, h1, e _ _ h2⟩
  | .tour _ _, ⟨p, o, h1, h2, h3, h4⟩ => ⟨p, o, h1, h2, e _ _ h3, e _ _ h4⟩
  | .clash _, ⟨p, c, h1, h2, h3⟩ => ⟨p, c, h1, e _ _ h2, e _ _ h3⟩
theorem AnsR.imp {P : Program} {w : World} {F G : Addr → Prop} {H : Hp} {v : V} (i : ∀ p, F p → G p) : ∀ {a : Ans}, AnsR P w F H v a → AnsR P w G H v a
  | .rows _, ⟨l, qs, h1, h2, h3⟩ => ⟨l, qs, h1, i _ h2, h3⟩
  | .err _, h => h
  | .num _, h => h
  | .tab _, ⟨t, h1, h2, h3⟩ => ⟨t, h1, i _ h2, h3⟩
  | .lst none, h => h
  | .lst (some _), ⟨p, h1, h2, h3⟩ => ⟨p, h1, i _ h2, h3⟩
  | .tup none, h => h
  | .tup (some _), h => h
  | .tour _ _, ⟨p, o, h1, h2, h3⟩ => ⟨p, o, h1, i _ h2, h3⟩
  | .clash _, h => h
/-- a list that is no part of it may change -/
theorem AnsR.put {P : Program} {w : World} {F : Addr → Prop} {H : Hp} {v : V} {L : Addr} {ys : List V} {o : HO} (hL : H L = some (.lst ys)) (i : ∀ p, F p → p ≠ L) : ∀ {a : Ans}, AnsR P w F H v a → AnsR P w F (upd H L o) v a
  | .rows _, ⟨l, qs, h1, h2, h3, h4⟩ => ⟨l, qs, h1, h2, by rw [upd_ne (i _ h2)]; exact h3, RowsR.at_lst hL h4⟩
  | .err _, ⟨h0, p, h1, h2⟩ => ⟨h0, p, h1, tup_at_lst hL _ _ h2⟩
  | .num _, h => h
  | .tab _, ⟨t, h1, h2, xs, t1, t2, t3⟩ => ⟨t, h1, h2, xs, by rw [upd_ne (i _ h2)]; exact t1, t2.mono (tup_at_lst hL), t3⟩
  | .lst none, h => h
  | .lst (some _), ⟨p, h1, h2, h3⟩ => ⟨p, h1, h2, by rw [upd_ne (i _ h2)]; exact h3⟩
  | .tup none, h => h
  | .tup (some _), ⟨p, h1, h2⟩ => ⟨p, h1, tup_at_lst hL _ _ h2⟩
  | .tour _ _, ⟨p, o, h1, h2, h3, h4⟩ => ⟨p, o, h1, h2, tup_at_lst hL _ _ h3, by rw [upd_ne (i _ h2)]; exact h4⟩
  | .clash _, ⟨p, c, h1, h2, h3⟩ => ⟨p, c, h1, tup_at_lst hL _ _ h2, tup_at_lst hL _ _ h3⟩
def rowsD (rs : List Row) : PyData := .list (rs.map fun x => PyData.tuple [.int x.1, .int x.2.1, .int x.2.2])
theorem rowD_dp {K : PySem.W.Frag} {H : Hp} {p : Addr} {x : Row} (h : SqT K H p (rowV x)) : Dp K H (.ref p) (.tuple [.int x.1, .int x.2.1, .int x.2.2]) := .tup h (.cons (.int _) (.cons (.int _) (.cons (.int _) .nil)))
theorem rows_dpAll {K : PySem.W.Frag} {H : Hp} : ∀ {qs : List Addr} {rs : List Row}, RowsR H qs rs → DpAll K H (qs.map V.ref) (rs.map fun x => PyData.tuple [.int x.1, .int x.2.1, .int x.2.2])
  | [], [], _ => .nil
  | [], _ :: _, h => by cases h
  | _ :: _, [], h => by cases h
  | _ :: _, _ :: _, h => by
    cases h with
    | cons r t => exact .cons (rowD_dp (SqT.of r)) (rows_dpAll t)
theorem shaped_rows (rs : List Row) : SeqAt.shaped (rowsD rs) = true := by
  have h1 : ∀ rs : List Row, PyData.canLayAll0 (rs.map fun x => PyData.tuple [.int x.1, .int x.2.1, .int x.2.2]) = true := by
    intro rs
    induction rs with
    | nil => simp [PyData.canLayAll0]
    | cons x r ih =>
      simp only [List.map_cons, PyData.canLayAll0, ih, Bool.and_true]
      simp [PyData.canLay0, PyData.canLayAll0]
  have h2 : ∀ rs : List Row, PyData.depthAll (rs.map fun x => PyData.tuple [.int x.1, .int x.2.1, .int x.2.2]) ≤ 3 := by
    intro rs
    induction rs with
    | nil => simp [PyData.depthAll]
    | cons x r ih =>
      simp only [List.map_cons, PyData.depthAll]
      have : PyData.depth (.tuple [.int x.1, .int x.2.1, .int x.2.2]) ≤ 3 := by simp [PyData.depth, PyData.depthAll]
      omega
  have d := h2 rs
  unfold SeqAt.shaped rowsD
  rw [Bool.and_eq_true]
  refine ⟨by simpa [PyData.canLay0] using h1 rs, decide_eq_true ?_⟩
  simp only [PyData.depth]
  omega
def errD (s : Str) : PyData := .tuple [.str s]
theorem shaped_err {s : Str} (h : s = "missed" ∨ s = "order") : SeqAt.shaped (errD s) = true := by
  have hs : PyData.strOk s = true := by
    rcases h with rfl | rfl
    · decide +kernel
    · decide +kernel
  unfold SeqAt.shaped errD
  simp [PyData.canLay0, PyData.canLayAll0, PyData.depth, PyData.depthAll, hs]
theorem ne_opt (o : Option Int) : scal (optV o) (optV o) = true := by cases o <;> rfl
theorem tints_dp' {K : PySem.W.Frag} {H : Hp} {c : Addr} {ks : List Int} (hc : SqT K H c (ks.map V.int)) : Dp K H (.ref c) (.tuple (ks.map PyData.int)) := .tup hc (ints_all ks)
theorem shaped_tints' (ks : List Int) : SeqAt.shaped (.tuple (ks.map PyData.int)) = true := by
  have h1 := canLay_ints ks
  have h2 := depth_ints ks
  unfold SeqAt.shaped
  rw [Bool.and_eq_true]
  refine ⟨by simp [PyData.canLay0, PyData.canLayAll0, h1], decide_eq_true ?_⟩
  simp only [PyData.depth, PyData.depthAll]
  omega
/-- two that answer the same are not told apart -/
theorem AnsR.same {P : Program} {w : World} {K : PySem.W.Frag} {F G : Addr → Prop} {H : Hp} {v u : V} {Q : VK} (q : Q (.bl false) H) : ∀ {a : Ans}, AnsR P w F H v a → AnsR P w G H u a → rNeAny P w K v u H Q
  | .rows rs, ⟨l, qs, h1, _, h3, h4⟩, ⟨l2, qs2, k1, _, k3, k4⟩ => by
    subst h1 k1
    refine .inr (.inl ⟨rowsD rs, rowsD rs, .lst (SqL.of h3) (rows_dpAll h4), .lst (SqL.of k3) (rows_dpAll k4), shaped_rows _, shaped_rows _, ?_⟩)
    rw [eqv_self (shaped_rows _)]
    exact q
  | .err s, ⟨h0, p, h1, h2⟩, ⟨_, p2, k1, k2⟩ => by
    subst h1 k1
    refine .inr (.inl ⟨errD s, errD s, .tup (SqT.of h2) (.cons (.str _) .nil), .tup (SqT.of k2) (.cons (.str _) .nil), shaped_err h0, shaped_err h0, ?_⟩)
    rw [eqv_self (shaped_err h0)]
    exact q
  | .num o, h, k => by
    obtain rfl : v = optV o := h
    obtain rfl : u = optV o := k
    refine .inl ⟨ne_opt o, ?_⟩
    rw [neSelf rfl]
    exact q
  | .tab es, ⟨t, h1, _, xs, a1, a2, a3⟩, ⟨t2, k1, _, ys, b1, b2, _⟩ => by
    subst h1 k1
    exact .inr (.inr ⟨t, t2, xs, ys, rfl, rfl, .inl a1, .inl b1, a2.nok a3, b2.nok a3, by rw [a2.len, b2.len], tab_same a2 b2 a3, q⟩)
  | .lst none, h, k => by
    obtain rfl : v = .non := h
    obtain rfl : u = .non := k
    refine .inl ⟨rfl, ?_⟩
    rw [neSelf rfl]
    exact q
  | .lst (some os), ⟨p, h1, _, h3⟩, ⟨p2, k1, _, k3⟩ => by
    subst h1 k1
    refine .inr (.inl ⟨intsD os, intsD os, ints_dp (SqL.of h3), ints_dp (SqL.of k3), shaped_ints _, shaped_ints _, ?_⟩)
    rw [eqv_self (shaped_ints _)]
    exact q
  | .tup none, h, k => by
    obtain rfl : v = .non := h
    obtain rfl : u = .non := k
    refine .inl ⟨rfl, ?_⟩
    rw [neSelf rfl]
    exact q
  | .tup (some ks), ⟨p, h1, h2⟩, ⟨p2, k1, k2⟩ => by
    subst h1 k1
    refine .inr (.inl ⟨_, _, tints_dp' (SqT.of h2), tints_dp' (SqT.of k2), shaped_tints' _, shaped_tints' _, ?_⟩)
    rw [eqv_self (shaped_tints' _)]
    exact q
  | .tour os e, ⟨p, o, h1, _, h3, h4⟩, ⟨p2, o2, k1, _, k3, k4⟩ => by
    subst h1 k1
    refine .inr (.inl ⟨tourD os e, tourD os e, tour_dp (SqT.of h3) (SqL.of h4), tour_dp (SqT.of k3) (SqL.of k4), shaped_tour _ _, shaped_tour _ _, ?_⟩)
    rw [eqv_self (shaped_tour _ _)]
    exact q
  | .clash ks, ⟨p, c, h1, h2, h3⟩, ⟨p2, c2, k1, k2, k3⟩ => by
    subst h1 k1
    refine .inr (.inl ⟨clashD ks, clashD ks, clash_dp (SqT.of h2) (SqT.of h3), clash_dp (SqT.of k2) (SqT.of k3), shaped_clash _, shaped_clash _, ?_⟩)
    rw [eqv_self (shaped_clash _)]
    exact q
/-- what is due -/
def errOr (ns : List Int) (m : Nat) (a : Ans) : Ans := if (∀ x ∈ ns, 0 ≤ x ∧ x < m) ∧ ns.Nodup then a else .err "order"
def ansOf (ring : Bool) (len home start : Int) (sts : List Stp) (ns : List Int) (k : Int) : Ans :=
  if k = 0 then errOr ns sts.length (match rowsOf ring len sts home start ns with | none => .err "missed" | some rs => .rows rs)
  else if k = 1 then errOr ns sts.length (match rowsOf ring len sts home start ns with | none => .err "missed" | some _ => .num ((behindOf ring len sts home start ns).map fun z => z.2 + apartOf ring len z.1 home))
  else if k = 2 then errOr ns sts.length (.tab (tableOf ring len sts home start ns))
  else if k = 3 then errOr ns sts.length (.num (leastOf ring len sts home start ns))
  else if k = 4 then .lst (bestOf ring len home start sts)
  else if k = 5 then .tup (clashOf ring len home start sts)
  else match leastOf ring len sts home start [] with
    | none => .clash (clashGo ring len home start sts sts.length)
    | some e => .tour (bestGo ring len home start sts e sts.length) e
theorem errOr_ok {ns : List Int} {m : Nat} {a : Ans} (h : ordOk ns m) : errOr ns m a = a := if_pos h
theorem errOr_bad {ns : List Int} {m : Nat} {a : Ans} (h : ¬ ordOk ns m) : errOr ns m a = .err "order" := if_neg h
/-- what may be changed of what was answered -/
inductive ChgR (P : Program) (w : World) (B H : Hp) : V → Prop
  | list {l : Addr} {xs : List V} (b : B l = none) (h : H l = some (.lst xs)) : ChgR P w B H (.ref l)
  | dict {t : Addr} {xs : List NEnt} (b : B t = none) (h : H t = some (DN P w t xs)) (n : NOk H xs) : ChgR P w B H (.ref t)
  | num (o : Option Int) : ChgR P w B H (optV o)
  | few {p : Addr} {xs : List V} (h : H p = some (.tup xs)) (l : xs.length ≤ 1) : ChgR P w B H (.ref p)
  | nums {p : Addr} {xs : List V} {m : Int} (h : H p = some (.tup xs)) (l : 1 < xs.length) (a : atI xs 1 = some (.int m)) : ChgR P w B H (.ref p)
  | tups {p c : Addr} {xs ys : List V} (h : H p = some (.tup xs)) (l : 1 < xs.length) (a : atI xs 1 = some (.ref c)) (k : H c = some (.tup ys)) : ChgR P w B H (.ref p)
  | lists {p o : Addr} {xs ys : List V} (h : H p = some (.tup xs)) (l : 1 < xs.length) (a : atI xs 1 = some (.ref o)) (b : B o = none) (k : H o = some (.lst ys)) (s : ys.length ≤ 100) : ChgR P w B H (.ref p)
theorem AnsR.chg {P : Program} {w : World} {B H : Hp} {v : V} : ∀ {a : Ans}, (match a with | .tour os _ => os.length ≤ 100 | _ => True) → AnsR P w (fun p => B p = none) H v a → ChgR P w B H v
  | .rows _, _, ⟨l, qs, h1, h2, h3, h4⟩ => by subst h1; exact .list h2 h3
  | .err _, _, ⟨h0, p, h1, h2⟩ => by subst h1; exact .few h2 (Nat.le_refl _)
  | .num o, _, h => by obtain rfl : v = optV o := h; exact .num o
  | .tab _, _, ⟨t, h1, h2, xs, t1, t2, t3⟩ => by subst h1; exact .dict h2 t1 (t2.nok t3)
  | .lst none, _, h => by obtain rfl : v = .non := h; exact .num none
  | .lst (some _), _, ⟨p, h1, h2, h3⟩ => by subst h1; exact .list h2 h3
  | .tup none, _, h => by obtain rfl : v = .non := h; exact .num none
  | .tup (some ks), _, ⟨p, h1, h2⟩ => by
    subst h1
    match ks, h2 with
    | [], h2 => exact .few h2 (by decide)
    | [x], h2 => exact .few h2 (Nat.le_refl _)
    | x :: y :: r, h2 => exact .nums (m := y) h2 (by simp) (atI_nat (j := 1) rfl)
  | .tour _ _, s, ⟨p, o, h1, h2, h3, h4⟩ => by subst h1; exact .lists h3 (by show 1 < 3; decide) rfl h2 h4 (by rw [List.length_map]; exact s)
  | .clash _, _, ⟨p, c, h1, h2, h3⟩ => by subst h1; exact .tups h2 (by show 1 < 2; decide) rfl h3

/-! ### what the top has left -/
structure Txt (K : PySem.W.Frag) (mg : Str → Option Value) (D : Str → FuncData) : Prop where
  F_is_road : FunD K "is_road" "is_road" (defArgs s_is_road) (defBody s_is_road) (defScope s_is_road) [] [] (He.ga K "is_road") (D "is_road")
  m_is_road : mg "is_road" = some (.ref (He.ga K "is_road"))
  b_is_road : Binds K (D "is_road") ["road"] []
  F_has_place : FunD K "has_place" "has_place" (defArgs s_has_place) (defBody s_has_place) (defScope s_has_place) [] [] (He.ga K "has_place") (D "has_place")
  m_has_place : mg "has_place" = some (.ref (He.ga K "has_place"))
  b_has_place : Binds K (D "has_place") ["road", "place"] []
  F_apart : FunD K "apart" "apart" (defArgs s_apart) (defBody s_apart) (defScope s_apart) [] [] (He.ga K "apart") (D "apart")
  m_apart : mg "apart" = some (.ref (He.ga K "apart"))
  b_apart : Binds K (D "apart") ["road", "one", "other"] []
  F_way : FunD K "way" "way" (defArgs s_way) (defBody s_way) (defScope s_way) [] [] (He.ga K "way") (D "way")
  m_way : mg "way" = some (.ref (He.ga K "way"))
  b_way : Binds K (D "way") ["road", "one", "other"] []
  F_is_time : FunD K "is_time" "is_time" (defArgs s_is_time) (defBody s_is_time) (defScope s_is_time) [] [] (He.ga K "is_time") (D "is_time")
  m_is_time : mg "is_time" = some (.ref (He.ga K "is_time"))
  b_is_time : Binds K (D "is_time") ["number"] []
  F_check_stop : FunD K "check_stop" "check_stop" (defArgs s_check_stop) (defBody s_check_stop) (defScope s_check_stop) [] [] (He.ga K "check_stop") (D "check_stop")
  m_check_stop : mg "check_stop" = some (.ref (He.ga K "check_stop"))
  b_check_stop : Binds K (D "check_stop") ["road", "stop"] []
  F_check_day : FunD K "check_day" "check_day" (defArgs s_check_day) (defBody s_check_day) (defScope s_check_day) [] [] (He.ga K "check_day") (D "check_day")
  m_check_day : mg "check_day" = some (.ref (He.ga K "check_day"))
  b_check_day : Binds K (D "check_day") ["road", "home", "start", "stops"] []
  F_Day___init : FunD K "__init__" "Day.__init__" (defArgs s_Day___init) (defBody s_Day___init) (defScope s_Day___init) [] [] (He.ma K (He.ga K "Day") "__init__") (D "Day.__init__")
  b_Day___init : Binds K (D "Day.__init__") ["self", "road", "home", "start", "stops"] []
  F_check_order : FunD K "check_order" "check_order" (defArgs s_check_order) (defBody s_check_order) (defScope s_check_order) [] [] (He.ga K "check_order") (D "check_order")
  m_check_order : mg "check_order" = some (.ref (He.ga K "check_order"))
  b_check_order : Binds K (D "check_order") ["day", "order"] []
  F_visit : FunD K "visit" "visit" (defArgs s_visit) (defBody s_visit) (defScope s_visit) [] [] (He.ga K "visit") (D "visit")
  m_visit : mg "visit" = some (.ref (He.ga K "visit"))
  b_visit : Binds K (D "visit") ["day", "place", "leaves", "number"] []
  F_timetable : FunD K "timetable" "timetable" (defArgs s_timetable) (defBody s_timetable) (defScope s_timetable) [] [] (He.ga K "timetable") (D "timetable")
  m_timetable : mg "timetable" = some (.ref (He.ga K "timetable"))
  b_timetable : Binds K (D "timetable") ["day", "order"] []
  F_ends : FunD K "ends" "ends" (defArgs s_ends) (defBody s_ends) (defScope s_ends) [] [] (He.ga K "ends") (D "ends")
  m_ends : mg "ends" = some (.ref (He.ga K "ends"))
  b_ends : Binds K (D "ends") ["day", "order"] []
  F_not_begun : FunD K "not_begun" "not_begun" (defArgs s_not_begun) (defBody s_not_begun) (defScope s_not_begun) [] [] (He.ga K "not_begun") (D "not_begun")
  m_not_begun : mg "not_begun" = some (.ref (He.ga K "not_begun"))
  b_not_begun : Binds K (D "not_begun") ["day", "begun"] []
  F_begun_way : FunD K "begun_way" "begun_way" (defArgs s_begun_way) (defBody s_begun_way) (defScope s_begun_way) [] [] (He.ga K "begun_way") (D "begun_way")
  m_begun_way : mg "begun_way" = some (.ref (He.ga K "begun_way"))
  b_begun_way : Binds K (D "begun_way") ["day", "begun"] []
  F_ways_on : FunD K "ways_on" "ways_on" (defArgs s_ways_on) (defBody s_ways_on) (defScope s_ways_on) [] [] (He.ga K "ways_on") (D "ways_on")
  m_ways_on : mg "ways_on" = some (.ref (He.ga K "ways_on"))
  b_ways_on : Binds K (D "ways_on") ["day", "rows", "done"] []
  F_earliest : FunD K "earliest" "earliest" (defArgs s_earliest) (defBody s_earliest) (defScope s_earliest) [] [] (He.ga K "earliest") (D "earliest")
  m_earliest : mg "earliest" = some (.ref (He.ga K "earliest"))
  b_earliest : Binds K (D "earliest") ["day", "ways", "last"] []
  F_table : FunD K "table" "table" (defArgs s_table) (defBody s_table) (defScope s_table) [] [] (He.ga K "table") (D "table")
  m_table : mg "table" = some (.ref (He.ga K "table"))
  b_table : Binds K (D "table") ["day", "begun"] []
  F_tour_end : FunD K "tour_end" "tour_end" (defArgs s_tour_end) (defBody s_tour_end) (defScope s_tour_end) [] [] (He.ga K "tour_end") (D "tour_end")
  m_tour_end : mg "tour_end" = some (.ref (He.ga K "tour_end"))
  b_tour_end : Binds K (D "tour_end") ["day", "order"] []
  F_least : FunD K "least" "least" (defArgs s_least) (defBody s_least) (defScope s_least) [] [] (He.ga K "least") (D "least")
  m_least : mg "least" = some (.ref (He.ga K "least"))
  b_least : Binds K (D "least") ["day", "begun"] []
  F_written : FunD K "written" "written" (defArgs s_written) (defBody s_written) (defScope s_written) [] [] (He.ga K "written") (D "written")
  m_written : mg "written" = some (.ref (He.ga K "written"))
  b_written : Binds K (D "written") ["day"] []
  F_number_of : FunD K "number_of" "number_of" (defArgs s_number_of) (defBody s_number_of) (defScope s_number_of) [] [] (He.ga K "number_of") (D "number_of")
  m_number_of : mg "number_of" = some (.ref (He.ga K "number_of"))
  b_number_of : Binds K (D "number_of") ["word"] []
  F_numbers_of : FunD K "numbers_of" "numbers_of" (defArgs s_numbers_of) (defBody s_numbers_of) (defScope s_numbers_of) [] [] (He.ga K "numbers_of") (D "numbers_of")
  m_numbers_of : mg "numbers_of" = some (.ref (He.ga K "numbers_of"))
  b_numbers_of : Binds K (D "numbers_of") ["row", "names"] []
  F_road_of : FunD K "road_of" "road_of" (defArgs s_road_of) (defBody s_road_of) (defScope s_road_of) [] [] (He.ga K "road_of") (D "road_of")
  m_road_of : mg "road_of" = some (.ref (He.ga K "road_of"))
  b_road_of : Binds K (D "road_of") ["row"] []
  F_read : FunD K "read" "read" (defArgs s_read) (defBody s_read) (defScope s_read) [] [] (He.ga K "read") (D "read")
  m_read : mg "read" = some (.ref (He.ga K "read"))
  b_read : Binds K (D "read") ["text"] []
  F_best : FunD K "best" "best" (defArgs s_best) (defBody s_best) (defScope s_best) [] [] (He.ga K "best") (D "best")
  m_best : mg "best" = some (.ref (He.ga K "best"))
  b_best : Binds K (D "best") ["day"] []
  F_next_number : FunD K "next_number" "next_number" (defArgs s_next_number) (defBody s_next_number) (defScope s_next_number) [] [] (He.ga K "next_number") (D "next_number")
  m_next_number : mg "next_number" = some (.ref (He.ga K "next_number"))
  b_next_number : Binds K (D "next_number") ["day", "order", "end"] []
  F_has_tour : FunD K "has_tour" "has_tour" (defArgs s_has_tour) (defBody s_has_tour) (defScope s_has_tour) [] [] (He.ga K "has_tour") (D "has_tour")
  m_has_tour : mg "has_tour" = some (.ref (He.ga K "has_tour"))
  b_has_tour : Binds K (D "has_tour") ["day", "kept"] []
  F_clash : FunD K "clash" "clash" (defArgs s_clash) (defBody s_clash) (defScope s_clash) [] [] (He.ga K "clash") (D "clash")
  m_clash : mg "clash" = some (.ref (He.ga K "clash"))
  b_clash : Binds K (D "clash") ["day"] []
  F_told : FunD K "told" "told" (defArgs s_told) (defBody s_told) (defScope s_told) [] [] (He.ga K "told") (D "told")
  m_told : mg "told" = some (.ref (He.ga K "told"))
  b_told : Binds K (D "told") ["day"] []
  F_law_cell_at : FunD K "_law_cell_at" "_law_cell_at" (defArgs s_law_cell_at) (defBody s_law_cell_at) (defScope s_law_cell_at) [] [] (He.ga K "_law_cell_at") (D "_law_cell_at")
  m_law_cell_at : mg "_law_cell_at" = some (.ref (He.ga K "_law_cell_at"))
  b_law_cell_at : Binds K (D "_law_cell_at") ["_law_script", "_law_k"] []
  F_law_wide : FunD K "_law_wide" "_law_wide" (defArgs s_law_wide) (defBody s_law_wide) (defScope s_law_wide) [] [] (He.ga K "_law_wide") (D "_law_wide")
  m_law_wide : mg "_law_wide" = some (.ref (He.ga K "_law_wide"))
  b_law_wide : Binds K (D "_law_wide") ["_law_cell", "_law_bound"] []
  F_law_road_by : FunD K "_law_road_by" "_law_road_by" (defArgs s_law_road_by) (defBody s_law_road_by) (defScope s_law_road_by) [] [] (He.ga K "_law_road_by") (D "_law_road_by")
  m_law_road_by : mg "_law_road_by" = some (.ref (He.ga K "_law_road_by"))
  b_law_road_by : Binds K (D "_law_road_by") ["_law_cell"] []
  F_law_places : FunD K "_law_places" "_law_places" (defArgs s_law_places) (defBody s_law_places) (defScope s_law_places) [] [] (He.ga K "_law_places") (D "_law_places")
  m_law_places : mg "_law_places" = some (.ref (He.ga K "_law_places"))
  b_law_places : Binds K (D "_law_places") ["_law_road"] []
  F_law_place_by : FunD K "_law_place_by" "_law_place_by" (defArgs s_law_place_by) (defBody s_law_place_by) (defScope s_law_place_by) [] [] (He.ga K "_law_place_by") (D "_law_place_by")
  m_law_place_by : mg "_law_place_by" = some (.ref (He.ga K "_law_place_by"))
  b_law_place_by : Binds K (D "_law_place_by") ["_law_road", "_law_cell"] []
  F_law_start_by : FunD K "_law_start_by" "_law_start_by" (defArgs s_law_start_by) (defBody s_law_start_by) (defScope s_law_start_by) [] [] (He.ga K "_law_start_by") (D "_law_start_by")
  m_law_start_by : mg "_law_start_by" = some (.ref (He.ga K "_law_start_by"))
  b_law_start_by : Binds K (D "_law_start_by") ["_law_road", "_law_cell"] []
  F_law_stop_by : FunD K "_law_stop_by" "_law_stop_by" (defArgs s_law_stop_by) (defBody s_law_stop_by) (defScope s_law_stop_by) [] [] (He.ga K "_law_stop_by") (D "_law_stop_by")
  m_law_stop_by : mg "_law_stop_by" = some (.ref (He.ga K "_law_stop_by"))
  b_law_stop_by : Binds K (D "_law_stop_by") ["_law_road", "_law_start", "_law_script", "_law_k"] []
  F_law_stops_by : FunD K "_law_stops_by" "_law_stops_by" (defArgs s_law_stops_by) (defBody s_law_stops_by) (defScope s_law_stops_by) [] [] (He.ga K "_law_stops_by") (D "_law_stops_by")
  m_law_stops_by : mg "_law_stops_by" = some (.ref (He.ga K "_law_stops_by"))
  b_law_stops_by : Binds K (D "_law_stops_by") ["_law_road", "_law_start", "_law_script", "_law_many_here"] []
  F_law_many : FunD K "_law_many" "_law_many" (defArgs s_law_many) (defBody s_law_many) (defScope s_law_many) [] [] (He.ga K "_law_many") (D "_law_many")
  m_law_many : mg "_law_many" = some (.ref (He.ga K "_law_many"))
  b_law_many : Binds K (D "_law_many") ["_law_cell"] []
  F_law_order : FunD K "_law_order" "_law_order" (defArgs s_law_order) (defBody s_law_order) (defScope s_law_order) [] [] (He.ga K "_law_order") (D "_law_order")
  m_law_order : mg "_law_order" = some (.ref (He.ga K "_law_order"))
  b_law_order : Binds K (D "_law_order") ["_law_script", "_law_many_here", "_law_k"] []
  F_law_driven : FunD K "_law_driven" "_law_driven" (defArgs s_law_driven) (defBody s_law_driven) (defScope s_law_driven) [] [] (He.ga K "_law_driven") (D "_law_driven")
  m_law_driven : mg "_law_driven" = some (.ref (He.ga K "_law_driven"))
  b_law_driven : Binds K (D "_law_driven") ["_law_day", "_law_order_here", "_law_kind"] []
  F_law_answer : FunD K "_law_answer" "_law_answer" (defArgs s_law_answer) (defBody s_law_answer) (defScope s_law_answer) [] [] (He.ga K "_law_answer") (D "_law_answer")
  m_law_answer : mg "_law_answer" = some (.ref (He.ga K "_law_answer"))
  b_law_answer : Binds K (D "_law_answer") ["_law_day", "_law_order_here", "_law_kind"] []
  F_law_changed : FunD K "_law_changed" "_law_changed" (defArgs s_law_changed) (defBody s_law_changed) (defScope s_law_changed) [] [] (He.ga K "_law_changed") (D "_law_changed")
  m_law_changed : mg "_law_changed" = some (.ref (He.ga K "_law_changed"))
  b_law_changed : Binds K (D "_law_changed") ["_law_found"] []
  F_law_far : FunD K "_law_far" "_law_far" (defArgs s_law_far) (defBody s_law_far) (defScope s_law_far) [] [] (He.ga K "_law_far") (D "_law_far")
  m_law_far : mg "_law_far" = some (.ref (He.ga K "_law_far"))
  b_law_far : Binds K (D "_law_far") ["_law_road", "_law_one", "_law_other"] []
  F_law_due_times : FunD K "_law_due_times" "_law_due_times" (defArgs s_law_due_times) (defBody s_law_due_times) (defScope s_law_due_times) [] [] (He.ga K "_law_due_times") (D "_law_due_times")
  m_law_due_times : mg "_law_due_times" = some (.ref (He.ga K "_law_due_times"))
  b_law_due_times : Binds K (D "_law_due_times") ["_law_road", "_law_home", "_law_start", "_law_stops", "_law_order_here"] []
  F_law_times_right : FunD K "_law_times_right" "_law_times_right" (defArgs s_law_times_right) (defBody s_law_times_right) (defScope s_law_times_right) [] [] (He.ga K "_law_times_right") (D "_law_times_right")
  m_law_times_right : mg "_law_times_right" = some (.ref (He.ga K "_law_times_right"))
  b_law_times_right : Binds K (D "_law_times_right") ["_law_road", "_law_home", "_law_start", "_law_pairs"] []
  F_law : FunD K "law" "law" (defArgs s_law) (defBody s_law) (defScope s_law) [] [] (He.ga K "law") (D "law")
  m_law : mg "law" = some (.ref (He.ga K "law"))
  b_law : Binds K (D "law") ["_law_script"] []
  m_RouteError : mg "RouteError" = some (.ref (He.ga K "RouteError"))
  x_RouteError : PySem.W.excIn K (He.ga K "RouteError") He.veBase "ValueError.__new__" = true
  kp_RouteError : PySem.W.keepIn K (.ref (He.ga K "RouteError")) = true
  sb_RouteError : PySem.W.subIn K (.ref (He.ga K "RouteError")) (.type "BaseException") = some true
  ty_RouteError : PySem.W.typeIn K (.ref (He.ga K "RouteError")) = some (.type "type")
  m_BadRoad : mg "BadRoad" = some (.ref (He.ga K "BadRoad"))
  x_BadRoad : PySem.W.excIn K (He.ga K "BadRoad") He.veBase "ValueError.__new__" = true
  kp_BadRoad : PySem.W.keepIn K (.ref (He.ga K "BadRoad")) = true
  sb_BadRoad : PySem.W.subIn K (.ref (He.ga K "BadRoad")) (.type "BaseException") = some true
  ty_BadRoad : PySem.W.typeIn K (.ref (He.ga K "BadRoad")) = some (.type "type")
  m_OffRoad : mg "OffRoad" = some (.ref (He.ga K "OffRoad"))
  x_OffRoad : PySem.W.excIn K (He.ga K "OffRoad") He.veBase "ValueError.__new__" = true
  kp_OffRoad : PySem.W.keepIn K (.ref (He.ga K "OffRoad")) = true
  sb_OffRoad : PySem.W.subIn K (.ref (He.ga K "OffRoad")) (.type "BaseException") = some true
  ty_OffRoad : PySem.W.typeIn K (.ref (He.ga K "OffRoad")) = some (.type "type")
  m_BadTime : mg "BadTime" = some (.ref (He.ga K "BadTime"))
  x_BadTime : PySem.W.excIn K (He.ga K "BadTime") He.veBase "ValueError.__new__" = true
  kp_BadTime : PySem.W.keepIn K (.ref (He.ga K "BadTime")) = true
  sb_BadTime : PySem.W.subIn K (.ref (He.ga K "BadTime")) (.type "BaseException") = some true
  ty_BadTime : PySem.W.typeIn K (.ref (He.ga K "BadTime")) = some (.type "type")
  m_TooMany : mg "TooMany" = some (.ref (He.ga K "TooMany"))
  x_TooMany : PySem.W.excIn K (He.ga K "TooMany") He.veBase "ValueError.__new__" = true
  kp_TooMany : PySem.W.keepIn K (.ref (He.ga K "TooMany")) = true
  sb_TooMany : PySem.W.subIn K (.ref (He.ga K "TooMany")) (.type "BaseException") = some true
  ty_TooMany : PySem.W.typeIn K (.ref (He.ga K "TooMany")) = some (.type "type")
  m_BadOrder : mg "BadOrder" = some (.ref (He.ga K "BadOrder"))
  x_BadOrder : PySem.W.excIn K (He.ga K "BadOrder") He.veBase "ValueError.__new__" = true
  kp_BadOrder : PySem.W.keepIn K (.ref (He.ga K "BadOrder")) = true
  sb_BadOrder : PySem.W.subIn K (.ref (He.ga K "BadOrder")) (.type "BaseException") = some true
  ty_BadOrder : PySem.W.typeIn K (.ref (He.ga K "BadOrder")) = some (.type "type")
  m_Missed : mg "Missed" = some (.ref (He.ga K "Missed"))
  x_Missed : PySem.W.excIn K (He.ga K "Missed") He.veBase "ValueError.__new__" = true
  kp_Missed : PySem.W.keepIn K (.ref (He.ga K "Missed")) = true
  sb_Missed : PySem.W.subIn K (.ref (He.ga K "Missed")) (.type "BaseException") = some true
  ty_Missed : PySem.W.typeIn K (.ref (He.ga K "Missed")) = some (.type "type")
  m_NoDay : mg "NoDay" = some (.ref (He.ga K "NoDay"))
  x_NoDay : PySem.W.excIn K (He.ga K "NoDay") He.veBase "ValueError.__new__" = true
  kp_NoDay : PySem.W.keepIn K (.ref (He.ga K "NoDay")) = true
  sb_NoDay : PySem.W.subIn K (.ref (He.ga K "NoDay")) (.type "BaseException") = some true
  ty_NoDay : PySem.W.typeIn K (.ref (He.ga K "NoDay")) = some (.type "type")
  m_Day : mg "Day" = some (.ref (He.ga K "Day"))
  cl_Day : Cls K (He.ga K "Day")
  k_Day : Mk K (He.ga K "Day") (He.ma K (He.ga K "Day") "__init__")
  na_Day_home : NoAttr K (He.ga K "Day") "home"
  na_Day_road : NoAttr K (He.ga K "Day") "road"
  na_Day_start : NoAttr K (He.ga K "Day") "start"
  na_Day_stops : NoAttr K (He.ga K "Day") "stops"
  e_OffRoad_Missed : PySem.W.exmOne K (.ref (He.ga K "OffRoad")) (.ref (He.ga K "Missed")) = some false
  e_OffRoad_BadOrder : PySem.W.exmOne K (.ref (He.ga K "OffRoad")) (.ref (He.ga K "BadOrder")) = some false
  e_BadTime_Missed : PySem.W.exmOne K (.ref (He.ga K "BadTime")) (.ref (He.ga K "Missed")) = some false
  e_BadTime_BadOrder : PySem.W.exmOne K (.ref (He.ga K "BadTime")) (.ref (He.ga K "BadOrder")) = some false
  e_BadRoad_Missed : PySem.W.exmOne K (.ref (He.ga K "BadRoad")) (.ref (He.ga K "Missed")) = some false
  e_BadRoad_BadOrder : PySem.W.exmOne K (.ref (He.ga K "BadRoad")) (.ref (He.ga K "BadOrder")) = some false
  e_TooMany_Missed : PySem.W.exmOne K (.ref (He.ga K "TooMany")) (.ref (He.ga K "Missed")) = some false
  e_TooMany_BadOrder : PySem.W.exmOne K (.ref (He.ga K "TooMany")) (.ref (He.ga K "BadOrder")) = some false
  e_BadOrder_Missed : PySem.W.exmOne K (.ref (He.ga K "BadOrder")) (.ref (He.ga K "Missed")) = some false
  e_BadOrder_BadOrder : PySem.W.exmOne K (.ref (He.ga K "BadOrder")) (.ref (He.ga K "BadOrder")) = some true
  e_NoDay_Missed : PySem.W.exmOne K (.ref (He.ga K "NoDay")) (.ref (He.ga K "Missed")) = some false
  e_NoDay_BadOrder : PySem.W.exmOne K (.ref (He.ga K "NoDay")) (.ref (He.ga K "BadOrder")) = some false
  e_Missed_Missed : PySem.W.exmOne K (.ref (He.ga K "Missed")) (.ref (He.ga K "Missed")) = some true
  e_Missed_BadOrder : PySem.W.exmOne K (.ref (He.ga K "Missed")) (.ref (He.ga K "BadOrder")) = some false
  c_LINE : ∃ u, mg "LINE" = some u ∧ RelV (.str "line") u
  c_RING : ∃ u, mg "RING" = some u ∧ RelV (.str "ring") u
  c_LONGEST : ∃ u, mg "LONGEST" = some u ∧ RelV (.int 1000000000) u
  c_LATEST : ∃ u, mg "LATEST" = some u ∧ RelV (.int 1000000000000) u
  c_MOST_STOPS : ∃ u, mg "MOST_STOPS" = some u ∧ RelV (.int 7) u
  c_FIGURES : ∃ u, mg "FIGURES" = some u ∧ RelV (.str "0123456789") u
  c_MOST_FIGURES : ∃ u, mg "MOST_FIGURES" = some u ∧ RelV (.int 15) u
  m_HOME_WORDS : mg "HOME_WORDS" = some (.ref (He.ga K "HOME_WORDS"))
  m_STOP_WORDS : mg "STOP_WORDS" = some (.ref (He.ga K "STOP_WORDS"))
  m_abs : mg "abs" = none
  m_max : mg "max" = none
  m_tuple : mg "tuple" = none
  m_range : mg "range" = none
  m_min : mg "min" = none
  m_int : mg "int" = none
  m_list : mg "list" = none
  m_reversed : mg "reversed" = none
  m_len : mg "len" = none
  m_isinstance : mg "isinstance" = none
  m_dict : mg "dict" = none
  m_set : mg "set" = none
  ec_OffRoad : ExcC K (He.ga K "OffRoad")
  ec_BadTime : ExcC K (He.ga K "BadTime")
  ec_BadRoad : ExcC K (He.ga K "BadRoad")
  ec_TooMany : ExcC K (He.ga K "TooMany")
  ec_BadOrder : ExcC K (He.ga K "BadOrder")
  ec_NoDay : ExcC K (He.ga K "NoDay")
  ec_Missed : ExcC K (He.ga K "Missed")
  m_combinations : mg "combinations" = some (.type "itertools.combinations")
  t_HOME_WORDS : TupC K (He.ga K "HOME_WORDS") [("home" : Str), ("at" : Str)]
  t_STOP_WORDS : TupC K (He.ga K "STOP_WORDS") [("stop" : Str), ("from" : Str), ("to" : Str), ("for" : Str)]
section
variable {P : Program} {w : World} {K : PySem.W.Frag} {mg : Str → Option Value} {base : Heap} {D : Str → FuncData}
/-! #### is_road -/
def sp_is_road (K : PySem.W.Frag) : Sp := fun vs H Q _ => ∃ (r : Addr) (w : Str) (len : Int), vs = [.ref r] ∧ SqT K H r [.str w, .int len] ∧ ∀ H', Ex H H' → Q (.bl (decide (isRoad w len))) H'
set_option maxHeartbeats 4000000 in
theorem ok_is_road (T : Txt K mg D) : FnOk P w K mg base CX0 1 (He.ga K "is_road") (D "is_road") ["road"] (sp_is_road K) := by
  refine T.F_is_road.ok sc_is_road (fun vs H Q E h => ?_) (fun cdv A outer s H vs Q E hr h => ?_)
  · obtain ⟨_, _, _, rfl, _⟩ := h
    rfl
  obtain ⟨r, w', len, rfl, hS, q⟩ := h
  refine ⟨_, PSs.nox (pss_cons (ps_asg (pv 0) (pg_tup rfl (pgs_cons (pg_name (i := 1) sc_is_road.nd rfl (Or.inl rfl)) (pgs_cons (pg_name (i := 2) sc_is_road.nd rfl (Or.inl rfl)) pgs_nil))))
    (pss_one (ps_ret (pe_and (pe_cmpR op_in_seq (pv 1) (pe_tup (pa_cons (pe_globE rfl T.c_LINE) (pa_cons (pe_globE rfl T.c_RING) pa_nil))) rfl) (pe_one (pe_chain op_le op_le pe_int (pv 2) (pe_globE rfl T.c_LONGEST))))))), ?_⟩
  refine ⟨_, rfl, r, _, rfl, hS, rfl, ?_⟩
  walk_at "go"
  intro p hp
  refine ⟨p, _, rfl, Or.inr (SqT.of upd_same), rfl, rfl, _, rfl, ?_⟩
  have e := in_roads w'
  refine iteB (fun c => ?_) (fun c => ?_)
  · have c1 : w' = "line" ∨ w' = "ring" := of_decide_eq_true (e.symm.trans c)
    walk_at "go"
    refine iteB (fun c => ?_) (fun c => ?_)
    · have c2 := of_decide_eq_true c
      walk_at "go"
      have q' := q (upd H p (.tup [.str "line", .str "ring"])) (Evl.Ex.new hp)
      rw [dec_eq (r := len ≤ 1000000000) (by unfold isRoad; exact ⟨fun z => z.2.2, fun z => ⟨c1, c2, z⟩⟩)] at q'
      exact q'
    · have c2 := of_decide_eq_false c
      have q' := q (upd H p (.tup [.str "line", .str "ring"])) (Evl.Ex.new hp)
      rw [decide_eq_false (fun z => c2 z.2.1)] at q'
      exact q'
  · have c1 : ¬ (w' = "line" ∨ w' = "ring") := of_decide_eq_false (e.symm.trans c)
    have q' := q (upd H p (.tup [.str "line", .str "ring"])) (Evl.Ex.new hp)
    rw [decide_eq_false (fun z => c1 z.1)] at q'
    exact q'
/-! #### has_place -/
def sp_has_place (K : PySem.W.Frag) : Sp := fun vs H Q _ => ∃ (r : Addr) (ring : Bool) (len p : Int), vs = [.ref r, .int p] ∧ SqT K H r (roadV ring len) ∧ Q (.bl (decide (0 ≤ p ∧ p < placesOf ring len))) H
set_option maxHeartbeats 4000000 in
theorem ok_has_place (T : Txt K mg D) : FnOk P w K mg base CX0 1 (He.ga K "has_place") (D "has_place") ["road", "place"] (sp_has_place K) := by
  refine T.F_has_place.ok sc_has_place (fun vs H Q E h => ?_) (fun cdv A outer s H vs Q E hr h => ?_)
  · obtain ⟨_, _, _, _, rfl, _⟩ := h
    rfl
  obtain ⟨r, ring, len, p, rfl, hS, q⟩ := h
  refine ⟨_, PSs.nox (pss_cons (ps_asg (pv 0) (pg_tup rfl (pgs_cons (pg_name (i := 2) sc_has_place.nd rfl (Or.inl rfl)) (pgs_cons (pg_name (i := 3) sc_has_place.nd rfl (Or.inl rfl)) pgs_nil))))
    (pss_cons (ps_if (pt_cmpR op_eq (pv 2) (pe_globE rfl T.c_LINE) (nomark _)) (pss_one (ps_ret (pe_chain op_le op_le pe_int (pv 1) (pv 3)))) pss_nil)
    (pss_one (ps_ret (pe_chain op_le op_lt pe_int (pv 1) (pv 3)))))), ?_⟩
  refine ⟨_, rfl, r, _, rfl, hS, rfl, ?_⟩
  walk_at "go"
  refine iteB (fun c => ?_) (fun c => ?_)
  · have hr := (word_line ring).mp (of_decide_eq_true c)
    subst hr
    have hp : placesOf false len = len + 1 := rfl
    walk_at "go"
    refine iteB (fun c2 => ?_) (fun c2 => ?_)
    · have c3 := of_decide_eq_true c2
      walk_at "go"
      rw [dec_eq (r := p ≤ len) (by rw [hp]; omega)] at q
      exact q
    · have c3 := of_decide_eq_false c2
      rw [decide_eq_false (by omega)] at q
      exact q
  · have hr : ring = true := by
      cases ring with
      | true => rfl
      | false => exact absurd ((word_line false).mpr rfl) (of_decide_eq_false c)
    subst hr
    have hp : placesOf true len = len := rfl
    walk_at "go"
    refine iteB (fun c2 => ?_) (fun c2 => ?_)
    · have c3 := of_decide_eq_true c2
      walk_at "go"
      rw [dec_eq (r := p < len) (by rw [hp]; omega)] at q
      exact q
    · have c3 := of_decide_eq_false c2
      rw [decide_eq_false (by omega)] at q
      exact q
/-! #### way -/
def sp_way (K : PySem.W.Frag) : Sp := fun vs H Q _ => ∃ (r : Addr) (ring : Bool) (len one other : Int), vs = [.ref r, .int one, .int other] ∧ SqT K H r (roadV ring len) ∧ 0 < len ∧ Q (.int (wayOf ring len one other)) H
set_option maxHeartbeats 4000000 in
theorem ok_way (T : Txt K mg D) : FnOk P w K mg base CX0 1 (He.ga K "way") (D "way") ["road", "one", "other"] (sp_way K) := by
  refine T.F_way.ok sc_way (fun vs H Q E h => ?_) (fun cdv A outer s H vs Q E hr h => ?_)
  · obtain ⟨_, _, _, _, _, rfl, _⟩ := h
    rfl
  obtain ⟨r, ring, len, one, other, rfl, hS, hl, q⟩ := h
  refine ⟨_, PSs.nox (pss_cons (ps_asg (pv 0) (pg_tup rfl (pgs_cons (pg_name (i := 3) sc_way.nd rfl (Or.inl rfl)) (pgs_cons (pg_name (i := 4) sc_way.nd rfl (Or.inl rfl)) pgs_nil))))
    (pss_cons (ps_if (pt_cmpR op_eq (pv 3) (pe_globE rfl T.c_LINE) (nomark _)) (pss_one (ps_ret (pe_op op_sub (pv 2) (pv 1)))) pss_nil)
    (pss_cons (ps_set (i := 5) sc_way.nd rfl (Or.inl rfl) (pe_op op_mod (pe_op op_sub (pv 2) (pv 1)) (pv 4)))
    (pss_cons (ps_if (pt_cmpR op_le (pe_op op_mul pe_int (pv 5)) (pv 4) (nomark _)) (pss_one (ps_ret (pv 5))) pss_nil)
    (pss_one (ps_ret (pe_op op_sub (pv 5) (pv 4)))))))), ?_⟩
  refine ⟨_, rfl, r, _, rfl, hS, rfl, ?_⟩
  walk_at "go"
  refine iteB (fun c => ?_) (fun c => ?_)
  · have hr := (word_line ring).mp (of_decide_eq_true c)
    subst hr
    walk_at "go"
    exact q
  · have hr : ring = true := by
      cases ring with
      | true => rfl
      | false => exact absurd ((word_line false).mpr rfl) (of_decide_eq_false c)
    subst hr
    walk_at "go"
    have q' : Q (.int (if 2 * ((other - one) % len) ≤ len then (other - one) % len else (other - one) % len - len)) H := q
    refine iteB (fun c => ?_) (fun c => ?_)
    · walk_at "go"
      rw [if_pos (of_decide_eq_true c)] at q'
      exact q'
    · walk_at "go"
      rw [if_neg (of_decide_eq_false c)] at q'
      exact q'
/-! #### is_time -/
def sp_is_time (K : PySem.W.Frag) : Sp := fun vs H Q _ => ∃ (n : Int), vs = [.int n] ∧ Q (.bl (decide (isTime n))) H
set_option maxHeartbeats 4000000 in
theorem ok_is_time (T : Txt K mg D) : FnOk P w K mg base CX0 1 (He.ga K "is_time") (D "is_time") ["number"] (sp_is_time K) := by
  refine T.F_is_time.ok sc_is_time (fun vs H Q E h => ?_) (fun cdv A outer s H vs Q E hr h => ?_)
  · obtain ⟨_, rfl, _⟩ := h
    rfl
  obtain ⟨n, rfl, q⟩ := h
  refine ⟨_, PSs.nox (pss_one (ps_ret (pe_chain op_le op_le pe_int (pv 0) (pe_globE rfl T.c_LATEST)))), ?_⟩
  walk_at "go"
  refine iteB (fun c => ?_) (fun c => ?_)
  · have c1 := of_decide_eq_true c
    walk_at "go"
    rw [dec_eq (r := n ≤ 1000000000000) (by unfold isTime; omega)] at q
    exact q
  · have c1 := of_decide_eq_false c
    rw [decide_eq_false (by unfold isTime; omega)] at q
    exact q
/-! #### check_order -/
def sp_check_order (K : PySem.W.Frag) : Sp := fun vs H Q E => ∃ (d o r l : Addr) (w : Str) (len home start : Int) (ps : List Addr) (sts : List Stp) (ns : List Int), vs = [.ref d, .ref o] ∧ DayAt K H d r l w len home start ps sts ∧ SqL K H o (ns.map V.int) ∧ ns.length ≤ 4000 ∧
  (ordOk ns sts.length → Q .non H) ∧ (¬ ordOk ns sts.length → E (.ref (He.ga K "BadOrder")) none H)
set_option maxHeartbeats 4000000 in
theorem ok_check_order (T : Txt K mg D) : FnOk P w K mg base (L2.CX P w) 1 (He.ga K "check_order") (D "check_order") ["day", "order"] (sp_check_order K) := by
  refine T.F_check_order.ok sc_check_order (fun vs H Q E h => ?_) (fun cdv A outer s H vs Q E hr h => ?_)
  · obtain ⟨_, _, _, _, _, _, _, _, _, _, _, rfl, _⟩ := h
    rfl
  obtain ⟨d, o, r, l, w', len, home, start, ps, sts, ns, rfl, hD, hO, hz, q1, q2⟩ := h
  refine ⟨_, (pss_cons (ps_for (passes_of rfl) rfl (pi_list (pv 1)) (pg_name (i := 2) sc_check_order.nd rfl (Or.inl rfl))
      (pss_one (ps_if (pt_not (pt_chain op_le op_lt pe_int (pv 2) (pe_callB call_len_seq rfl T.m_len PySem.boot_len (pa_cons (pe_fld (pv 0) rfl) pa_nil)))) (pss_one (ps_raise rfl (takes_of rfl rfl rfl rfl) (pmk_own PySem.F.excBase_ValueError T.x_BadOrder T.m_BadOrder T.kp_BadOrder (raises_own T.sb_BadOrder T.ty_BadOrder) (by exact rfl)))) pss_nil)))
    (pss_one (ps_if (pt_cmpR op_lt (pe_lenset rfl T.m_len rfl T.m_set (pv 1) rfl) (pe_callB call_len_seq rfl T.m_len PySem.boot_len (pa_cons (pv 1) pa_nil)) (nomark _)) (pss_one (ps_raise rfl (takes_of rfl rfl rfl rfl) (pmk_own PySem.F.excBase_ValueError T.x_BadOrder T.m_BadOrder T.kp_BadOrder (raises_own T.sb_BadOrder T.ty_BadOrder) (by exact rfl)))) pss_nil))), ?_⟩
  obtain ⟨⟨dx, k1⟩, k2, k3, k4⟩ := id hD
  have hlen : (ps.map V.ref).length = sts.length := by rw [List.length_map]; exact k4.len
  walk_at "go"
  refine ⟨⟨_, hO⟩, for_list (K := K) (a := o) (xs := ns.map V.int) (fun i σ H' => (∃ x, σ = [some (.ref d), some (.ref o), x]) ∧ H' = H ∧ ∀ y ∈ ns.take i, 0 ≤ y ∧ y < sts.length) ⟨⟨_, rfl⟩, rfl, (by simp)⟩ (fun i σ H' _ p => by rw [p.2.1]; exact hO) ?_ ?_⟩
  · rintro i y σ H' hi ⟨⟨x, rfl⟩, rfl, p⟩
    obtain ⟨n, hn, rfl⟩ := map_int_get hi
    have nmem : n ∈ ns := List.mem_of_getElem? hn
    walk_at "go"
    refine iteB (fun c => ?_) (fun c => ?_)
    · have c1 := of_decide_eq_true c
      walk_at "go"
      refine ⟨d, _, dx, _, _, rfl, k1, T.cl_Day, T.na_Day_stops, rfl, ?_⟩
      walk_at "go"
      refine iteB (fun c2 => ?_) (fun c2 => ?_)
      · refine q2 fun z => ?_
        have c3 := nndec c2
        have c4 := (z.1 n nmem).2
        omega
      · have c3 := ndec c2
        refine ⟨⟨_, rfl⟩, rfl, fun y hy => ?_⟩
        rw [List.take_succ, hn] at hy
        rcases List.mem_append.mp hy with hy | hy
        · exact p y hy
        · have e : y = n := by simpa using hy
          rw [e]
          exact ⟨c1, by omega⟩
    · walk_at "go"
      exact iteTb rfl (q2 fun z => of_decide_eq_false c (z.1 n nmem).1)
  rintro σ H' ⟨⟨x, rfl⟩, rfl, p⟩
  rw [List.length_map, List.take_length] at p
  walk_at "go"
  intro m m1 m2
  have hl : (ns.map V.int).length = ns.length := List.length_map _
  walk_at "go"
  refine iteB (fun c => ?_) (fun c => ?_)
  · refine q2 fun z => ?_
    have c1 := of_decide_eq_true c
    have c2 := m1 z.2
    omega
  · refine q1 ⟨p, ?_⟩
    have c1 := of_decide_eq_false c
    refine Decidable.byContradiction fun z => ?_
    have c2 := m2 z
    omega
/-! #### not_begun -/
def sp_not_begun (K : PySem.W.Frag) : Sp := fun vs H Q _ => ∃ (d o r l : Addr) (w : Str) (len home start : Int) (ps : List Addr) (sts : List Stp) (ns : List Int), vs = [.ref d, .ref o] ∧ DayAt K H d r l w len home start ps sts ∧ SqL K H o (ns.map V.int) ∧ sts.length ≤ 7 ∧
  ∀ p H', Ex H H' → H p = none → H' p = some (.tup ((restOf sts.length ns).map V.int)) → Q (.ref p) H'
set_option maxHeartbeats 4000000 in
theorem ok_not_begun (T : Txt K mg D) : FnOk P w K mg base CX0 1 (He.ga K "not_begun") (D "not_begun") ["day", "begun"] (sp_not_begun K) := by
  refine T.F_not_begun.ok sc_not_begun (fun vs H Q E h => ?_) (fun cdv A outer s H vs Q E hr h => ?_)
  · obtain ⟨_, _, _, _, _, _, _, _, _, _, _, rfl, _⟩ := h
    rfl
  obtain ⟨d, o, r, l, w', len, home, start, ps, sts, ns, rfl, hD, hO, h7, q⟩ := h
  refine ⟨_, PSs.nox (pss_one (ps_ret (pe_callTy call_tuple_of rfl T.m_tuple (by decide +kernel) (pa_cons (pe_lc (own := [("number", 2)]) (g := gName 2) (tt := _) rfl sc_not_begun.nd (pi_range1 rfl T.m_range (pa_cons (pe_callB call_len_seq rfl T.m_len PySem.boot_len (pa_cons (pe_fld (pv 0) rfl) pa_nil)) pa_nil)) (blkOk_by (own := [("number", 2)]) (N := N_not_begun) (sc := defScope s_not_begun) (by decide +kernel)) (fun _ _ _ _ _ => pg_name (i := 2) sc_not_begun.nd rfl (Or.inl rfl)) (fun _ _ _ _ _ => (by refine' pts_eq (t' := ?tq1) (pts_one (pt_cmpR op_notIn_seq (pv 2) (pv 1) rfl)) ?qt1; case qt1 => (first | (dsimp only [L2.Cx.blk]; done) | (dsimp only [L2.Cx.blk]; rfl) | rfl))) (fun _ _ _ _ _ => (by refine' pe_eq (t' := ?tt1) (pv 2) ?qq1; case qq1 => (first | (dsimp only [L2.Cx.blk]; done) | (dsimp only [L2.Cx.blk]; rfl) | rfl)))) pa_nil)))), ?_⟩
  obtain ⟨⟨dx, k1⟩, k2, k3, k4⟩ := id hD
  have hlen : (ps.map V.ref).length = sts.length := by rw [List.length_map]; exact k4.len
  walk_at "go"
  refine ⟨d, _, dx, _, _, rfl, k1, T.cl_Day, T.na_Day_stops, rfl, ?_⟩
  walk_at "go"
  intro L hL
  refine lc_range (lo := 0) (n := (ps.map V.ref).length) (fun i H' => Ex H H' ∧ H' L = some (.lst ((restOf i ns).map V.int))) ⟨Evl.Ex.new hL, upd_same⟩ ?_ ?_
  · rintro i H' hi ⟨e, hd⟩
    have hO' := Evl.ex_l e hO
    walk_at "go"
    rw [inV_ints]
    have step : restOf (i + 1) ns = restOf i ns ++ (if decide ((i : Int) ∈ ns) = true then [] else [(i : Int)]) := by
      unfold restOf
      rw [List.range_succ, List.map_append, List.filter_append]
      congr 1
      by_cases c : (i : Int) ∈ ns <;> simp [c]
    refine ⟨flat_ints ns, ?_⟩
    walk_at "go"
    refine iteB (fun c => ?_) (fun c => ?_)
    · have c1 : decide ((i : Int) ∈ ns) = false := by
        cases z : decide ((i : Int) ∈ ns) with
        | false => rfl
        | true => rw [Int.zero_add, z] at c; cases c
      walk_at "go"
      refine ⟨_, hd, Evl.sz_lt ?_, Evl.Ex.mut e hL, ?_⟩
      · rw [List.length_map]
        have : (restOf i ns).length ≤ i := by
          unfold restOf
          refine Nat.le_trans (List.length_filter_le _ _) ?_
          rw [List.length_map, List.length_range]
          exact Nat.le_refl _
        omega
      · rw [upd_same, step, c1, List.map_append, Int.zero_add]
        rfl
    · have c1 : decide ((i : Int) ∈ ns) = true := by
        cases z : decide ((i : Int) ∈ ns) with
        | true => rfl
        | false => rw [Int.zero_add, z] at c; cases c
      refine ⟨e, ?_⟩
      rw [step, c1, if_pos rfl, List.append_nil]
      exact hd
  · rintro H' ⟨e, hd⟩
    rw [hlen] at hd
    walk_at "go"
    refine ⟨_, _, rfl, Or.inl ⟨SqL.of hd, fun p hp => ?_⟩⟩
    exact q p _ (e.trans (Evl.Ex.new hp)) (none_of_ex e hp) upd_same
/-! #### ways_on -/
def sp_ways_on (P : Program) (W : World) (K : PySem.W.Frag) : Sp := fun vs H Q _ => ∃ (d t dn r l : Addr) (wd : Str) (len home start : Int) (ps : List Addr) (sts : List Stp) (es : List (Key × TV)) (done : List Int), vs = [.ref d, .ref t, .ref dn] ∧ DayAt K H d r l wd len home start ps sts ∧ TabAt P W H t es ∧ H dn = some (.tup (done.map V.int)) ∧ (∀ n ∈ done, 0 ≤ n ∧ n < sts.length) ∧ done.length ≤ 7 ∧
  ∀ l' qs H', Ex H H' → H l' = none → H' l' = some (.lst (qs.map V.ref)) → WaysR H' qs (waysOf (fun n => (stAt sts n).1) (fun n => look es (done, n)) done) → Q (.ref l') H'
set_option maxHeartbeats 4000000 in
theorem ok_ways_on (T : Txt K mg D) : FnOk P w K mg base CX0 1 (He.ga K "ways_on") (D "ways_on") ["day", "rows", "done"] (sp_ways_on P w K) := by
  refine T.F_ways_on.ok sc_ways_on (fun vs H Q E h => ?_) (fun cdv A outer s H vs Q E hr h => ?_)
  · obtain ⟨_, _, _, _, _, _, _, _, _, _, _, _, _, rfl, _⟩ := h
    rfl
  obtain ⟨d, t, dn, r, l, wd, len, home, start, ps, sts, es, done, rfl, hD, hT, hdn, hv, h7, q⟩ := h
  refine ⟨_, PSs.nox (pss_one (ps_ret (pe_lc (own := [("number", 3)]) (g := gName 3) (tt := _) rfl sc_ways_on.nd (pi_tup (pv 2)) (blkOk_by (own := [("number", 3)]) (N := N_ways_on) (sc := defScope s_ways_on) (by decide +kernel)) (fun _ _ _ _ _ => pg_name (i := 3) sc_ways_on.nd rfl (Or.inl rfl)) (fun _ _ _ _ _ => (by refine' pts_eq (t' := ?tq2) (pts_one (pt_cmpR (op_inN (room9 hr)) (pe_tup (pa_cons (pv 2) (pa_cons (pv 3) pa_nil))) (pv 1) rfl)) ?qt2; case qt2 => (first | (dsimp only [L2.Cx.blk]; done) | (dsimp only [L2.Cx.blk]; rfl) | rfl))) (fun _ _ _ _ _ => (by refine' pe_eq (t' := ?tt2) (pe_tup (pa_cons (pv 3) (pa_cons (pe_ix ix_tup (pe_ix ix_list (pe_fld (pv 0) rfl) (pv 3) (fun _ _ => rfl)) pe_int (fun _ _ => rfl)) (pa_cons (pe_ix ix_tup (pe_ix (ix_nd (room9 hr)) (pv 1) (pe_tup (pa_cons (pv 2) (pa_cons (pv 3) pa_nil))) (fun _ _ => rfl)) pe_int (fun _ _ => rfl)) pa_nil)))) ?qq2; case qq2 => (first | (dsimp only [L2.Cx.blk]; done) | (dsimp only [L2.Cx.blk]; rfl) | rfl)))))), ?_⟩
  walk_at "go"
  have lm : (done.map V.int).length = done.length := List.length_map _
  refine ⟨⟨_, SqT.of hdn⟩, fun L hL => lc_tup (K := K) (a := dn) (xs := done.map V.int) (fun i H' => ∃ qs, Ex H H' ∧ H' L = some (.lst (qs.map V.ref)) ∧ WaysR H' qs (waysOf (fun n => (stAt sts n).1) (fun n => look es (done, n)) (done.take i))) ⟨[], Evl.Ex.new hL, upd_same, .nil⟩ (fun i H' _ p => ?_) ?_ ?_⟩
  · obtain ⟨qs, e, _⟩ := p
    exact SqT.of (e _ _ hdn)
  · rintro i y H' hi ⟨qs, e, hd, hq⟩
    obtain ⟨n, hn, rfl⟩ := map_int_get hi
    have nmem : n ∈ done := List.mem_of_getElem? hn
    obtain ⟨n0, n1⟩ := hv n nmem
    have tk : done.take (i + 1) = done.take i ++ [n] := by rw [List.take_succ, hn]; rfl
    have li : qs.length < 1000 := by
      rw [hq.len]
      have h1 : (waysOf (fun n => (stAt sts n).1) (fun n => look es (done, n)) (done.take i)).length ≤ (done.take i).length := List.length_filterMap_le _ _
      rw [List.length_take] at h1
      omega
    walk_at "go"
    intro a ha
    have e1 := e.trans (Evl.Ex.new (o := .tup [.ref dn, .int n]) ha)
    have ha1 : (upd H' a (.tup [.ref dn, .int n])) a = some (.tup [.ref dn, .int n]) := upd_same
    have hd1 : (upd H' a (.tup [.ref dn, .int n])) L = some (.lst (qs.map V.ref)) := (Evl.Ex.new ha) _ _ hd
    have hq1 := hq.mono (fun b ys z => (Evl.Ex.new (o := .tup [.ref dn, .int n]) ha) b _ z)
    generalize upd H' a (.tup [.ref dn, .int n]) = H1 at e1 ha1 hd1 hq1
    obtain ⟨xs, t1, t2, t3⟩ := hT.ex e1
    walk_at "go"
    refine ⟨a, t, keyN (done, n), xs, rfl, rfl, ⟨.inl t1, t2.nok t3, keyV_at ha1 (e1 _ _ hdn), depth_key _⟩, ?_⟩
    walk_at "go"
    rcases t2.look (done, n) with ⟨z1, z2⟩ | ⟨v, p, z1, z2, z3⟩
    · rw [z2]
      refine iteFb rfl ⟨qs, e1, hd1, ?_⟩
      rw [tk, waysOf_snoc, z1, List.append_nil]
      exact hq1
    · rw [z2]
      refine iteTb rfl ?_
      obtain ⟨⟨dx, k1⟩, k2, k3, k4⟩ := id (hD.ex e1)
      obtain ⟨tt, ht, hTT⟩ := stop_val k4 n0 n1
      have s0 : atI (stopV (stAt sts n)) 0 = some (.int (stAt sts n).1) := rfl
      walk_at "go"
      refine ⟨d, _, dx, _, _, rfl, k1, T.cl_Day, T.na_Day_stops, rfl, ?_⟩
      walk_at "go"
      intro a2 ha2
      have e12 := Evl.Ex.new (o := .tup [.ref dn, .int n]) ha2
      have e2 := e1.trans e12
      have hb2 : (upd H1 a2 (.tup [.ref dn, .int n])) a2 = some (.tup [.ref dn, .int n]) := upd_same
      have hd2 : (upd H1 a2 (.tup [.ref dn, .int n])) L = some (.lst (qs.map V.ref)) := e12 _ _ hd1
      have hq2 := hq1.mono (fun b ys z => e12 b _ z)
      have t12 : (upd H1 a2 (.tup [.ref dn, .int n])) t = _ := e12 _ _ t1
      have t22 := t2.mono (fun b ys z => e12 b _ z)
      have z32 := e12 _ _ z3
      generalize upd H1 a2 (.tup [.ref dn, .int n]) = H2 at e2 hb2 hd2 hq2 t12 t22 z32 e12
      walk_at "go"
      refine ⟨a2, t, keyN (done, n), xs, _, rfl, rfl, ⟨.inl t12, t22.nok t3, keyV_at hb2 (e2 _ _ hdn), depth_key _⟩, z2, ?_⟩
      have v0 : atI (valV v) 0 = some (.int v.1) := rfl
      walk_at "go"
      intro p3 hp3
      have nL : L ≠ p3 := ne_of_none hd2 hp3
      have e3 := e2.trans (Evl.Ex.new (o := .tup [.int n, .int (stAt sts n).1, .int v.1]) hp3)
      refine ⟨_, (Evl.Ex.new hp3) _ _ hd2, Evl.sz_lt (by rw [List.length_map]; omega), qs ++ [p3], Evl.Ex.mut e3 hL, by rw [upd_same, List.map_append]; rfl, ?_⟩
      rw [tk, waysOf_snoc, z1]
      refine WaysR.snoc (x := (some n, (stAt sts n).1, v.1)) (tup_at_lst ((Evl.Ex.new hp3) _ _ hd2) _ _ upd_same) (hq2.mono fun b ys z => tup_at_lst ((Evl.Ex.new hp3) _ _ hd2) _ _ ((Evl.Ex.new hp3) _ _ z))
  · rintro H' ⟨qs, e, hd, hq⟩
    rw [lm, List.take_length] at hq
    exact q L qs H' e hL hd hq
/-! #### written -/
def sp_written (K : PySem.W.Frag) : Sp := fun vs H Q _ => ∃ (d r l : Addr) (ring : Bool) (len home start : Int) (ps : List Addr) (sts : List Stp), vs = [.ref d] ∧ DayAt K H d r l (wordOf ring) len home start ps sts ∧ GoodDay ring len home start sts ∧
  ∀ H', Ex H H' → Q (.str (S (dayT ring len home start sts))) H'
set_option maxHeartbeats 4000000 in
theorem ok_written (T : Txt K mg D) : FnOk P w K mg base CX0 1 (He.ga K "written") (D "written") ["day"] (sp_written K) := by
  refine T.F_written.ok sc_written (fun vs H Q E h => ?_) (fun cdv A outer s H vs Q E hr h => ?_)
  · obtain ⟨_, _, _, _, _, _, _, _, _, rfl, _⟩ := h
    rfl
  obtain ⟨d, r, l, ring, len, home, start, ps, sts, rfl, hD, gd, q⟩ := h
  refine ⟨_, PSs.nox (pss_cons (ps_asg (pe_fld (pv 0) rfl) (pg_tup rfl (pgs_cons (pg_name (i := 1) sc_written.nd rfl (Or.inl rfl)) (pgs_cons (pg_name (i := 2) sc_written.nd rfl (Or.inl rfl)) pgs_nil))))
    (pss_cons (ps_set (i := 3) sc_written.nd rfl (Or.inl rfl) (pe_lst (pa_cons (pe_joined (PJ.cons (pe_fmt (pv 1)) (PJ.cons pe_str (PJ.cons (pe_fmt (pv 2)) (PJ.cons pe_str PJ.nil))))) (pa_cons (pe_joined (PJ.cons pe_str (PJ.cons (pe_fmt (pe_fld (pv 0) rfl)) (PJ.cons pe_str (PJ.cons (pe_fmt (pe_fld (pv 0) rfl)) (PJ.cons pe_str PJ.nil)))))) pa_nil))))
    (pss_cons (ps_for PassesOwn.never rfl (pi_list (pe_fld (pv 0) rfl)) (pg_tup rfl (pgs_cons (pg_name (i := 4) sc_written.nd rfl (Or.inl rfl)) (pgs_cons (pg_name (i := 5) sc_written.nd rfl (Or.inl rfl)) (pgs_cons (pg_name (i := 6) sc_written.nd rfl (Or.inl rfl)) (pgs_cons (pg_name (i := 7) sc_written.nd rfl (Or.inl rfl)) pgs_nil)))))
      (pss_one (ps_expr (pe_bm PySem.F.plainAttrs_list PySem.F.slot_list_append PySem.F.type_list_append mt_append (pv 3) (pa_cons (pe_joined (PJ.cons pe_str (PJ.cons (pe_fmt (pv 4)) (PJ.cons pe_str (PJ.cons (pe_fmt (pv 5)) (PJ.cons pe_str (PJ.cons (pe_fmt (pv 6)) (PJ.cons pe_str (PJ.cons (pe_fmt (pv 7)) (PJ.cons pe_str PJ.nil)))))))))) pa_nil)))))
    (pss_one (ps_ret (pe_m1 PySem.F.slot_str_join PySem.F.type_str_join mt_join pe_str (pv 3))))))), ?_⟩
  dsimp only [L2.cxOf, L2.Cx.nox]
  obtain ⟨⟨dx, k1⟩, k2, k3, k4⟩ := id hD
  have k3' : SqL K H l (ps.map V.ref) := SqL.of k3
  have h7 : sts.length ≤ 7 := gd.2.2.2.2.2
  obtain ⟨g1, g2, ⟨gh0, gh1⟩, ⟨gs0, gs1⟩, gst, _⟩ := id gd
  have a2 : placesOf ring len ≤ len + 1 := by unfold placesOf; split <;> omega
  have lits := lit_len
  have nle : (Str.ofString (toString len)).length ≤ 15 := by rw [S_num (by omega), S_len]; exact num_len (by omega) (by omega)
  have nho : (Str.ofString (toString home)).length ≤ 15 := by rw [S_num gh0, S_len]; exact num_len gh0 (by omega)
  have nst : (Str.ofString (toString start)).length ≤ 15 := by rw [S_num gs0, S_len]; exact num_len gs0 (by omega)
  have nwd : (wordOf ring).length ≤ 4 := by cases ring <;> decide +kernel
  obtain ⟨z1, z2, z3, z4, z5, z6, z7, z8, z9⟩ := lits
  walk_at "go"
  refine ⟨d, _, dx, _, _, rfl, k1, T.cl_Day, T.na_Day_road, rfl, ?_⟩
  refine ⟨r, _, rfl, k2, rfl, ?_⟩
  walk_at "go"
  refine Or.inl ⟨_, rfl, Evl.sz_of (by omega), _, rfl, Evl.sz_of (by simp only [Str.length_append]; omega), ?_⟩
  refine ⟨_, rfl, Evl.sz_of (by simp only [Str.length_append]; omega), ?_⟩
  refine ⟨_, rfl, Or.inr ⟨_, rfl, log_small (by omega) (by omega), _, rfl, Evl.sz_of (by simp only [Str.length_append]; omega), ?_⟩⟩
  refine ⟨_, rfl, Evl.sz_of (by simp only [Str.length_append]; omega), ?_⟩
  refine ⟨_, rfl, Evl.sz_of (by simp only [Str.length_append]; omega), ?_⟩
  refine ⟨_, rfl, d, _, dx, _, _, rfl, k1, T.cl_Day, T.na_Day_home, rfl, Or.inr ⟨_, rfl, log_small gh0 (by omega), _, rfl, Evl.sz_of (by simp only [Str.length_append]; omega), ?_⟩⟩
  refine ⟨_, rfl, Evl.sz_of (by simp only [Str.length_append]; omega), ?_⟩
  refine ⟨_, rfl, d, _, dx, _, _, rfl, k1, T.cl_Day, T.na_Day_start, rfl, Or.inr ⟨_, rfl, log_small gs0 (by omega), _, rfl, Evl.sz_of (by simp only [Str.length_append]; omega), ?_⟩⟩
  refine ⟨_, rfl, Evl.sz_of (by simp only [Str.length_append]; omega), ?_⟩
  walk_at "go"
  rw [road_row ring (show 0 ≤ len by omega), home_row gh0 gs0]
  intro p hp
  have e1 := Evl.Ex.new (o := .lst [.str (S (joinL [32] [tl (wordOf ring), num len] ++ [10])), .str (S (joinL [32] [wHome, num home, wAt, num start] ++ [10]))]) hp
  have h1 : (upd H p (.lst [.str (S (joinL [32] [tl (wordOf ring), num len] ++ [10])), .str (S (joinL [32] [wHome, num home, wAt, num start] ++ [10]))])) p = some (.lst (([[tl (wordOf ring), num len], [wHome, num home, wAt, num start]] ++ (sts.take 0).map stopW).map fun ws => V.str (S (joinL [32] ws ++ [10])))) := by rw [upd_same]; rfl
  generalize upd H p (.lst [.str (S (joinL [32] [tl (wordOf ring), num len] ++ [10])), .str (S (joinL [32] [wHome, num home, wAt, num start] ++ [10]))]) = H1 at e1 h1
  have k1' := e1 _ _ k1
  have k3'' := Evl.ex_l e1 k3'
  walk_at "go"
  refine ⟨d, _, dx, _, _, rfl, k1', T.cl_Day, T.na_Day_stops, rfl, ?_⟩
  walk_at "go"
  refine ⟨⟨_, k3''⟩, for_list (K := K) (a := l) (xs := ps.map V.ref) (fun i σ H' => (∃ x4 x5 x6 x7 : Option V, σ = [some (.ref d), some (.str (wordOf ring)), some (.int len), some (.ref p), x4, x5, x6, x7]) ∧ Ex H H' ∧ H' p = some (.lst (([[tl (wordOf ring), num len], [wHome, num home, wAt, num start]] ++ (sts.take i).map stopW).map fun ws => V.str (S (joinL [32] ws ++ [10]))))) ⟨⟨_, _, _, _, rfl⟩, e1, h1⟩ (fun i σ H' _ z => Evl.ex_l z.2.1 k3') ?_ ?_⟩
  · rintro i y σ H' hi ⟨⟨x4, x5, x6, x7, rfl⟩, ex, hd⟩
    obtain ⟨q4, hq4, rfl⟩ := map_ref_get hi
    obtain ⟨s, hs, hT⟩ := (k4.ex ex).get hq4
    obtain ⟨⟨p0, p1⟩, o0, o1, c1, t0, t1⟩ := gst s (List.mem_of_getElem? hs)
    have il : i < sts.length := by
      obtain ⟨z, _⟩ := List.getElem?_eq_some_iff.mp hs
      exact z
    have tk : sts.take (i + 1) = sts.take i ++ [s] := by rw [List.take_succ, hs]; rfl
    have n4 : (Str.ofString (toString s.1)).length ≤ 15 := by rw [S_num p0, S_len]; exact num_len p0 (by omega)
    have n5 : (Str.ofString (toString s.2.1)).length ≤ 15 := by rw [S_num o0, S_len]; exact num_len o0 (by omega)
    have n6 : (Str.ofString (toString s.2.2.1)).length ≤ 15 := by rw [S_num (by omega), S_len]; exact num_len (by omega) (by omega)
    have n7 : (Str.ofString (toString s.2.2.2)).length ≤ 15 := by rw [S_num t0, S_len]; exact num_len t0 (by omega)
    have lc : (([[tl (wordOf ring), num len], [wHome, num home, wAt, num start]] ++ (sts.take i).map stopW).map fun ws => V.str (S (joinL [32] ws ++ [10]))).length ≤ 9 := by
      rw [List.length_map, List.length_append, List.length_map, List.length_take]
      simp
      omega
    refine ⟨q4, _, rfl, hT, rfl, ?_⟩
    walk_at "go"
    refine ⟨Or.inl ⟨rfl, _, SqL.of hd⟩, ?_⟩
    walk_at "go"
    refine Or.inr ⟨_, rfl, log_small p0 (by omega), _, rfl, Evl.sz_of (by simp only [Str.length_append]; omega), ?_⟩
    refine ⟨_, rfl, Evl.sz_of (by simp only [Str.length_append]; omega), ?_⟩
    refine ⟨_, rfl, Or.inr ⟨_, rfl, log_small o0 (by omega), _, rfl, Evl.sz_of (by simp only [Str.length_append]; omega), ?_⟩⟩
    refine ⟨_, rfl, Evl.sz_of (by simp only [Str.length_append]; omega), ?_⟩
    refine ⟨_, rfl, Or.inr ⟨_, rfl, log_small (by omega) (by omega), _, rfl, Evl.sz_of (by simp only [Str.length_append]; omega), ?_⟩⟩
    refine ⟨_, rfl, Evl.sz_of (by simp only [Str.length_append]; omega), ?_⟩
    refine ⟨_, rfl, Or.inr ⟨_, rfl, log_small t0 (by omega), _, rfl, Evl.sz_of (by simp only [Str.length_append]; omega), ?_⟩⟩
    refine ⟨_, rfl, Evl.sz_of (by simp only [Str.length_append]; omega), ?_⟩
    have er := stop_row p0 o0 (show 0 ≤ s.2.2.1 by omega) t0
    dsimp only [L2.tJs]
    rw [er]
    refine ⟨p, _, _, rfl, rfl, hd, Evl.sz_lt (by omega), ⟨_, _, _, _, rfl⟩, Evl.Ex.mut ex hp, ?_⟩
    have so : ([[tl (wordOf ring), num len], [wHome, num home, wAt, num start]] ++ (sts.take (i + 1)).map stopW).map (fun ws => V.str (S (joinL [32] ws ++ [10]))) = ([[tl (wordOf ring), num len], [wHome, num home, wAt, num start]] ++ (sts.take i).map stopW).map (fun ws => V.str (S (joinL [32] ws ++ [10]))) ++ [V.str (S (joinL [32] (stopW s) ++ [10]))] := by
      rw [tk]
      simp only [List.map_append, List.append_assoc]
      rfl
    rw [upd_same, so]
  rintro σ H' ⟨⟨x4, x5, x6, x7, rfl⟩, ex, hd⟩
  have all : sts.take (ps.map V.ref).length = sts := by rw [List.length_map, k4.len, List.take_length]
  rw [all] at hd
  have hrw : ([[tl (wordOf ring), num len], [wHome, num home, wAt, num start]] ++ sts.map stopW) = rowsW ring len home start sts := rfl
  rw [hrw] at hd
  have ra := rows_all gd
  have small := rows_sum gd
  have he : Str.ofString "" = Str.empty := rfl
  walk_at "go"
  refine ⟨⟨_, rfl⟩, ?_⟩
  walk_at "go"
  refine ⟨_, _, (rowsW ring len home start sts).map fun ws => S (joinL [32] ws ++ [10]), rfl, rfl, Or.inl (by rw [List.map_map]; exact SqL.of hd), small, ?_⟩
  rw [he, join_day]
  exact q H' ex
/-! #### number_of -/
def sp_number_of (K : PySem.W.Frag) : Sp := fun vs H Q _ => ∃ (n : Int), vs = [.str (S (num n))] ∧ 0 ≤ n ∧ n < 1000000000000000 ∧ Q (.int n) H
set_option maxHeartbeats 4000000 in
theorem ok_number_of (T : Txt K mg D) : FnOk P w K mg base (L2.CX P w) 1 (He.ga K "number_of") (D "number_of") ["word"] (sp_number_of K) := by
  refine T.F_number_of.ok sc_number_of (fun vs H Q E h => ?_) (fun cdv A outer s H vs Q E hr h => ?_)
  · obtain ⟨_, rfl, _⟩ := h
    rfl
  obtain ⟨n, rfl, n0, n1, q⟩ := h
  refine ⟨_, (pss_cons (ps_if (pt_not (pt_chain op_le op_le pe_int (pe_callB call_len_str rfl T.m_len PySem.boot_len (pa_cons (pv 0) pa_nil)) (pe_globE rfl T.c_MOST_FIGURES))) (pss_one (ps_raise rfl (takes_of rfl rfl rfl rfl) (pmk_own PySem.F.excBase_ValueError T.x_NoDay T.m_NoDay T.kp_NoDay (raises_own T.sb_NoDay T.ty_NoDay) (by exact rfl)))) pss_nil)
    (pss_cons (ps_for (passes_of rfl) rfl (pi_str (pv 0)) (pg_name (i := 1) sc_number_of.nd rfl (Or.inl rfl))
      (pss_one (ps_if (pt_cmpR op_notIn_sign (pv 1) (pe_globE rfl T.c_FIGURES) rfl) (pss_one (ps_raise rfl (takes_of rfl rfl rfl rfl) (pmk_own PySem.F.excBase_ValueError T.x_NoDay T.m_NoDay T.kp_NoDay (raises_own T.sb_NoDay T.ty_NoDay) (by exact rfl)))) pss_nil)))
    (pss_cons (ps_if (PW.pt (pw_and (pt_cmpR op_eq (pe_ix ix_str (pv 0) pe_int (fun _ _ => rfl)) pe_str (nomark _)) (pw_and1 (pt_cmpR op_ne (pv 0) pe_str (nomark _))))) (pss_one (ps_raise rfl (takes_of rfl rfl rfl rfl) (pmk_own PySem.F.excBase_ValueError T.x_NoDay T.m_NoDay T.kp_NoDay (raises_own T.sb_NoDay T.ty_NoDay) (by exact rfl)))) pss_nil)
    (pss_one (ps_ret (pe_callTy call_int_str rfl T.m_int (by decide +kernel) (pa_cons (pv 0) pa_nil))))))), ?_⟩
  have hl := num_len n0 n1
  have hp : 0 < (num n).length := List.length_pos_iff.mpr (num_ne n)
  have sl := S_len (num n)
  walk_at "go"
  refine ⟨Evl.sz_of (by rw [sl]; omega), ?_⟩
  rw [sl]
  walk_at "go"
  refine iteTb (decT (by omega)) ?_
  walk_at "go"
  refine iteFb (by rw [decT (show ((num n).length : Int) ≤ 15 by omega)]; rfl) ?_
  walk_at "go"
  refine for_it (walk_str (z := S (num n))) (fun i σ H' => (∃ x1, σ = [some (.str (S (num n))), x1]) ∧ H' = H) ⟨⟨_, rfl⟩, rfl⟩ (fun _ _ _ _ _ => True.intro) ?_ ?_
  · rintro i y σ H1 H2 hi ⟨⟨x1, rfl⟩, rfl⟩ ⟨rfl, c, hc, rfl⟩
    have cm : c ∈ num n := by
      have z : (num n)[i]? = some c := by
        have z2 : ((S (num n)).cps.toList)[i]? = some c := by rw [Array.getElem?_toList]; exact hc
        exact z2
      exact List.mem_of_getElem? z
    have cf : c ∈ (Str.ofString "0123456789").cps.toList := by
      rw [figs_is]
      exact mem_figs.mpr (num_digit cm)
    walk_at "go"
    exact iteFb (by rw [decT cf]; rfl) ⟨⟨_, rfl⟩, rfl⟩
  rintro σ H' ⟨⟨x1, rfl⟩, rfl⟩
  obtain ⟨c, r, ec⟩ : ∃ c r, num n = c :: r := by
    cases e : num n with
    | nil => exact absurd e (num_ne n)
    | cons c r => exact ⟨c, r, rfl⟩
  have at0 : atI (S (num n)).cps.toList 0 = some c := by
    show atI (num n) ((0 : Nat) : Int) = some c
    rw [ec]
    exact atI_nat rfl
  have fin : Q (.int n) H' := q
  have read_ : PySem.intText? (S (num n)) = some n := num_int n0 (by omega)
  walk_at "go"
  refine ⟨_, _, _, rfl, rfl, Evl.sz_of (by rw [sl]; omega), at0, ?_⟩
  walk_at "go"
  rw [zero_S]
  refine iteB (fun c1 => ?_) (fun c1 => ?_)
  · have e48 : c = 48 := by
      have z := S_inj (V.str.inj (odt c1) : S [c] = S [48])
      exact (List.cons.inj z).1
    subst e48
    have e1 := num_head ec
    walk_at "go"
    refine iteFb (by rw [e1, decT rfl]; rfl) ?_
    walk_at "go"
    exact fin
  · walk_at "go"
    exact fin
/-! #### _law_cell_at -/
def sp_law_cell_at (K : PySem.W.Frag) : Sp := fun vs H Q _ => ∃ (a : Addr) (ns : List Int) (k : Int), vs = [.ref a, .int k] ∧ SqL K H a (ns.map V.int) ∧ ns.length ≤ 63 ∧ ∀ v, Q (.int v) H
/-- the value itself -/
def cellAt (ns : List Int) (k : Int) : Int := if ns.length = 0 then k else ns.getD (k % (ns.length : Int)).toNat 0 + 3 * (k / (ns.length : Int))
def sp2_law_cell_at (K : PySem.W.Frag) : Sp := fun vs H Q _ => ∃ (a : Addr) (ns : List Int) (k : Int), vs = [.ref a, .int k] ∧ SqL K H a (ns.map V.int) ∧ ns.length ≤ 63 ∧ ∀ v, v = cellAt ns k → Q (.int v) H
set_option maxHeartbeats 4000000 in
theorem ok_law_cell_at (T : Txt K mg D) : FnOk P w K mg base CX0 1 (He.ga K "_law_cell_at") (D "_law_cell_at") ["_law_script", "_law_k"] (sp_law_cell_at K) := by
  refine T.F_law_cell_at.ok sc_law_cell_at (fun vs H Q E h => ?_) (fun cdv A outer s H vs Q E hr h => ?_)
  · obtain ⟨_, _, _, rfl, _⟩ := h
    rfl
  obtain ⟨a, ns, k, rfl, hS, hn, q⟩ := h
  refine ⟨_, PSs.nox (pss_cons (ps_if (pt_cmpR op_eq (pe_callB call_len_seq rfl T.m_len PySem.boot_len (pa_cons (pv 0) pa_nil)) pe_int (nomark _)) (pss_one (ps_ret (pv 1))) pss_nil)
    (pss_one (ps_ret (pe_op op_add (pe_ix ix_list (pv 0) (pe_op op_mod (pv 1) (pe_callB call_len_seq rfl T.m_len PySem.boot_len (pa_cons (pv 0) pa_nil))) (fun _ _ => rfl)) (pe_op op_mul pe_int (pe_op op_fdiv (pv 1) (pe_callB call_len_seq rfl T.m_len PySem.boot_len (pa_cons (pv 0) pa_nil)))))))), ?_⟩
  have hl : (ns.map V.int).length = ns.length := List.length_map _
  walk_at "go"
  refine iteB (fun c => ?_) (fun c => ?_)
  · walk_at "go"
    exact q _
  · have c' : ¬ (((ns.map V.int).length : Nat) : Int) = 0 := fun z => of_decide_eq_false c (congrArg V.int z)
    have hp : (0 : Int) < (((ns.map V.int).length : Nat) : Int) := by omega
    have hj : k % (((ns.map V.int).length : Nat) : Int) < (((ns.map V.int).length : Nat) : Int) := Int.emod_lt_of_pos _ hp
    have hj0 : 0 ≤ k % (((ns.map V.int).length : Nat) : Int) := Int.emod_nonneg _ c'
    obtain ⟨v, hv, hv2⟩ := atI_lt hj0 hj
    obtain ⟨z, rfl⟩ : ∃ z, v = V.int z := by
      rw [List.getElem?_map] at hv2
      cases e : ns[(k % (((ns.map V.int).length : Nat) : Int)).toNat]? with
      | none => rw [e] at hv2; cases hv2
      | some z => rw [e] at hv2; exact ⟨z, (Option.some.inj hv2).symm⟩
    walk_at "go"
    exact q _
set_option maxHeartbeats 4000000 in
theorem ok2_law_cell_at (T : Txt K mg D) : FnOk P w K mg base CX0 1 (He.ga K "_law_cell_at") (D "_law_cell_at") ["_law_script", "_law_k"] (sp2_law_cell_at K) := by
  refine T.F_law_cell_at.ok sc_law_cell_at (fun vs H Q E h => ?_) (fun cdv A outer s H vs Q E hr h => ?_)
  · obtain ⟨_, _, _, rfl, _⟩ := h
    rfl
  obtain ⟨a, ns, k, rfl, hS, hn, q⟩ := h
  refine ⟨_, PSs.nox (pss_cons (ps_if (pt_cmpR op_eq (pe_callB call_len_seq rfl T.m_len PySem.boot_len (pa_cons (pv 0) pa_nil)) pe_int (nomark _)) (pss_one (ps_ret (pv 1))) pss_nil)
    (pss_one (ps_ret (pe_op op_add (pe_ix ix_list (pv 0) (pe_op op_mod (pv 1) (pe_callB call_len_seq rfl T.m_len PySem.boot_len (pa_cons (pv 0) pa_nil))) (fun _ _ => rfl)) (pe_op op_mul pe_int (pe_op op_fdiv (pv 1) (pe_callB call_len_seq rfl T.m_len PySem.boot_len (pa_cons (pv 0) pa_nil)))))))), ?_⟩
  have hl : (ns.map V.int).length = ns.length := List.length_map _
  walk_at "go"
  refine iteB (fun c => ?_) (fun c => ?_)
  · walk_at "go"
    refine q _ ?_
    have c' := odt c
    have c2 := V.int.inj c'
    unfold cellAt
    rw [if_pos (by omega)]
  · have c' : ¬ (((ns.map V.int).length : Nat) : Int) = 0 := fun z => of_decide_eq_false c (congrArg V.int z)
    have hp : (0 : Int) < (((ns.map V.int).length : Nat) : Int) := by omega
    have hj : k % (((ns.map V.int).length : Nat) : Int) < (((ns.map V.int).length : Nat) : Int) := Int.emod_lt_of_pos _ hp
    have hj0 : 0 ≤ k % (((ns.map V.int).length : Nat) : Int) := Int.emod_nonneg _ c'
    obtain ⟨v, hv, hv2⟩ := atI_lt hj0 hj
    obtain ⟨z, rfl, hz⟩ : ∃ z, v = V.int z ∧ ns[(k % (((ns.map V.int).length : Nat) : Int)).toNat]? = some z := by
      rw [List.getElem?_map] at hv2
      cases e : ns[(k % (((ns.map V.int).length : Nat) : Int)).toNat]? with
      | none => rw [e] at hv2; cases hv2
      | some z => rw [e] at hv2; exact ⟨z, (Option.some.inj hv2).symm, rfl⟩
    walk_at "go"
    refine q _ ?_
    unfold cellAt
    rw [if_neg (by omega), List.getD_eq_getElem?_getD, ← hl, hz]
    rfl
/-! #### _law_wide -/
def sp_law_wide (K : PySem.W.Frag) : Sp := fun vs H Q _ => ∃ (c b : Int), vs = [.int c, .int b] ∧ 0 < b ∧ ∀ v, 0 ≤ v → v < b → Q (.int v) H
set_option maxHeartbeats 4000000 in
theorem ok_law_wide (T : Txt K mg D) : FnOk P w K mg base CX0 1 (He.ga K "_law_wide") (D "_law_wide") ["_law_cell", "_law_bound"] (sp_law_wide K) := by
  refine T.F_law_wide.ok sc_law_wide (fun vs H Q E h => ?_) (fun cdv A outer s H vs Q E hr h => ?_)
  · obtain ⟨_, _, rfl, _⟩ := h
    rfl
  obtain ⟨c, b, rfl, hb, q⟩ := h
  refine ⟨_, PSs.nox (pss_one (ps_ret (pe_op op_mod (pe_op op_mod (pe_op op_mul (pv 0) pe_int) pe_int) (pv 1)))), ?_⟩
  walk_at "go"
  exact q _ (Int.emod_nonneg _ (by omega)) (Int.emod_lt_of_pos _ hb)
/-! #### _law_places -/
def sp_law_places (K : PySem.W.Frag) : Sp := fun vs H Q _ => ∃ (r : Addr) (ring : Bool) (len : Int), vs = [.ref r] ∧ SqT K H r (roadV ring len) ∧ Q (.int (placesOf ring len)) H
set_option maxHeartbeats 4000000 in
theorem ok_law_places (T : Txt K mg D) : FnOk P w K mg base CX0 1 (He.ga K "_law_places") (D "_law_places") ["_law_road"] (sp_law_places K) := by
  refine T.F_law_places.ok sc_law_places (fun vs H Q E h => ?_) (fun cdv A outer s H vs Q E hr h => ?_)
  · obtain ⟨_, _, _, rfl, _⟩ := h
    rfl
  obtain ⟨r, ring, len, rfl, hS, q⟩ := h
  refine ⟨_, PSs.nox (pss_cons (ps_if (pt_cmpR op_eq (pe_ix ix_tup (pv 0) pe_int (fun _ _ => rfl)) pe_str (nomark _)) (pss_one (ps_ret (pe_op op_add (pe_ix ix_tup (pv 0) pe_int (fun _ _ => rfl)) pe_int))) pss_nil)
    (pss_one (ps_ret (pe_ix ix_tup (pv 0) pe_int (fun _ _ => rfl))))), ?_⟩
  have a0 : atI (roadV ring len) 0 = some (.str (wordOf ring)) := rfl
  have a1 : atI (roadV ring len) 1 = some (.int len) := rfl
  walk_at "go"
  refine iteB (fun c => ?_) (fun c => ?_)
  · have hr := (word_line ring).mp (of_decide_eq_true c)
    subst hr
    walk_at "go"
    exact q
  · have hr : ring = true := by
      cases ring with
      | true => rfl
      | false => exact absurd ((word_line false).mpr rfl) (of_decide_eq_false c)
    subst hr
    walk_at "go"
    exact q
/-! #### _law_many -/
def sp_law_many (K : PySem.W.Frag) : Sp := fun vs H Q _ => ∃ (c : Int), vs = [.int c] ∧ ∀ m : Nat, m ≤ 7 → Q (.int m) H
theorem many_q {Q : V → Hp → Prop} {H : Hp} {b c d : Int} (q : ∀ m : Nat, m ≤ 7 → Q (.int m) H) (h0 : 0 ≤ b) (h6 : b ≤ 6) : Q (.int (b + c / d % 2)) H := by
  have m0 := Int.emod_nonneg (c / d) (show (2 : Int) ≠ 0 by decide)
  have m1 := Int.emod_lt_of_pos (c / d) (show (0 : Int) < 2 by decide)
  have e : b + c / d % 2 = (((b + c / d % 2).toNat : Nat) : Int) := by omega
  have z := q (b + c / d % 2).toNat (by omega)
  rw [← e] at z
  exact z
set_option maxHeartbeats 4000000 in
theorem ok_law_many (T : Txt K mg D) : FnOk P w K mg base CX0 1 (He.ga K "_law_many") (D "_law_many") ["_law_cell"] (sp_law_many K) := by
  refine T.F_law_many.ok sc_law_many (fun vs H Q E h => ?_) (fun cdv A outer s H vs Q E hr h => ?_)
  · obtain ⟨_, rfl, _⟩ := h
    rfl
  obtain ⟨c, rfl, q⟩ := h
  refine ⟨_, PSs.nox (pss_cons (ps_if (pt_cmpR op_eq (pe_op op_mod (pe_op op_fdiv (pv 0) pe_int) pe_int) pe_int (nomark _)) (pss_one (ps_ret (pe_op op_add pe_int (pe_op op_mod (pe_op op_fdiv (pv 0) pe_int) pe_int)))) pss_nil)
    (pss_one (ps_ret (pe_op op_mod (pv 0) pe_int)))), ?_⟩
  walk_at "go"
  refine iteB (fun b => ?_) (fun b => ?_)
  · walk_at "go"
    exact many_q q (by decide) (by decide)
  · walk_at "go"
    have m0 := Int.emod_nonneg c (show (6 : Int) ≠ 0 by decide)
    have m1 := Int.emod_lt_of_pos c (show (0 : Int) < 6 by decide)
    have e : c % 6 = (((c % 6).toNat : Nat) : Int) := by omega
    have z := q (c % 6).toNat (by omega)
    rw [← e] at z
    exact z
/-! #### _law_changed -/
def sp_law_changed (P : Program) (W : World) (K : PySem.W.Frag) : Sp := fun vs H Q _ => ∃ (v : V) (B : Hp) (_u _v : Unit), vs = [v] ∧ ChgR P W B H v ∧ Ex B H ∧ ∀ H', Ex B H' → Q .non H'
set_option maxHeartbeats 4000000 in
theorem ok_law_changed (T : Txt K mg D) : FnOk P w K mg base CX0 1 (He.ga K "_law_changed") (D "_law_changed") ["_law_found"] (sp_law_changed P w K) := by
  refine T.F_law_changed.ok sc_law_changed (fun vs H Q E h => ?_) (fun cdv A outer s H vs Q E hr h => ?_)
  · obtain ⟨_, _, _, _, rfl, _⟩ := h
    rfl
  obtain ⟨v, B, _, _, rfl, hA, hB, q⟩ := h
  refine ⟨_, PSs.nox (Evl.pss_cut (ps_if (PW.pt (pw_or (pt_val (pe_callB call_isAny rfl T.m_isinstance (by decide +kernel) (pa_cons (pv 0) (pa_cons (pe_bltn (v := V.ty "list") (u := Value.type "list") rfl T.m_list (by decide +kernel) rfl) pa_nil)))) (pw_or1 (pt_val (pe_callB call_isAny rfl T.m_isinstance (by decide +kernel) (pa_cons (pv 0) (pa_cons (pe_bltn (v := V.ty "dict") (u := Value.type "dict") rfl T.m_dict (by decide +kernel) rfl) pa_nil))))))) (pss_one (ps_expr (pe_or (pe_bm0 PySem.F.plainAttrs_list PySem.F.slot_list_clear PySem.F.type_list_clear mt_clear (pv 0)) (pe_clearN (pv 0))))) pss_nil)
    (pss_one (ps_if (PW.pt (pw_and (pt_val (pe_callB call_isAny rfl T.m_isinstance (by decide +kernel) (pa_cons (pv 0) (pa_cons (pe_bltn (v := V.ty "tuple") (u := Value.type "tuple") rfl T.m_tuple (by decide +kernel) rfl) pa_nil)))) (pw_and (pt_cmpR op_gt (pe_callB call_len_seq rfl T.m_len PySem.boot_len (pa_cons (pv 0) pa_nil)) pe_int (nomark _)) (pw_and1 (pt_val (pe_callB call_isi rfl T.m_isinstance (by decide +kernel) (pa_cons (pe_ix ix_tup (pv 0) pe_int (fun _ _ => rfl)) (pa_cons (pe_bltn (v := V.ty "list") (u := Value.type "list") rfl T.m_list (by decide +kernel) rfl) pa_nil)))))))) (pss_one (ps_expr (pe_bm PySem.F.plainAttrs_list PySem.F.slot_list_append PySem.F.type_list_append mt_append (pe_ix ix_tup (pv 0) pe_int (fun _ _ => rfl)) (pa_cons pe_int pa_nil)))) pss_nil))), ?_⟩
  dsimp only [L2.cxOf, L2.Cx.nox]
  refine ⟨fun σ' H' => σ' = [some v] ∧ Ex B H' ∧ ChgR P w B H' v, ?_, ?_⟩
  · cases hA with
    | @list l xs b h =>
      walk_at "go"
      refine Or.inl ⟨_, _, .type "list", .type "list", true, rfl, .ty _, .base (.lst h), rfl, ?_⟩
      walk_at "go"
      refine Or.inl ⟨_, rfl, Or.inl ⟨rfl, _, SqL.of h⟩, l, _, rfl, rfl, h, ?_⟩
      exact ⟨rfl, Evl.Ex.mut hB b, .list b upd_same⟩
    | @dict t xs b h n =>
      walk_at "go"
      refine Or.inr ⟨t, xs, .ty "list", .type "list", false, rfl, .inl h, .ty _, kit_ty (by decide +kernel), ?_⟩
      walk_at "go"
      refine Or.inr ⟨t, xs, .ty "dict", .type "dict", true, rfl, .inl h, .ty _, kit_ty (by decide +kernel), ?_⟩
      walk_at "go"
      refine Or.inr ⟨_, rfl, t, xs, rfl, h, n, ?_⟩
      exact ⟨rfl, Evl.Ex.mut hB b, .dict b upd_same ⟨fun p hp => (by cases hp), List.nodup_nil⟩⟩
    | num o =>
      cases o with
      | none =>
        walk_at "go"
        refine Or.inl ⟨_, _, .type "NoneType", .type "list", false, rfl, .ty _, .base .non, kit_ty (by decide +kernel), ?_⟩
        walk_at "go"
        refine Or.inl ⟨_, _, .type "NoneType", .type "dict", false, rfl, .ty _, .base .non, kit_ty (by decide +kernel), ?_⟩
        walk_at "go"
        exact .num none
      | some m =>
        walk_at "go"
        refine Or.inl ⟨_, _, .type "int", .type "list", false, rfl, .ty _, .base (.int _), kit_ty (by decide +kernel), ?_⟩
        walk_at "go"
        refine Or.inl ⟨_, _, .type "int", .type "dict", false, rfl, .ty _, .base (.int _), kit_ty (by decide +kernel), ?_⟩
        walk_at "go"
        exact .num (some m)
    | @few p xs h l =>
      walk_at "go"
      refine Or.inl ⟨_, _, .type "tuple", .type "list", false, rfl, .ty _, .base (.tup h), kit_ty (by decide +kernel), ?_⟩
      walk_at "go"
      refine Or.inl ⟨_, _, .type "tuple", .type "dict", false, rfl, .ty _, .base (.tup h), kit_ty (by decide +kernel), ?_⟩
      walk_at "go"
      exact .few h l
    | @nums p xs m h l a =>
      walk_at "go"
      refine Or.inl ⟨_, _, .type "tuple", .type "list", false, rfl, .ty _, .base (.tup h), kit_ty (by decide +kernel), ?_⟩
      walk_at "go"
      refine Or.inl ⟨_, _, .type "tuple", .type "dict", false, rfl, .ty _, .base (.tup h), kit_ty (by decide +kernel), ?_⟩
      walk_at "go"
      exact .nums h l a
    | @tups p c xs ys h l a k =>
      walk_at "go"
      refine Or.inl ⟨_, _, .type "tuple", .type "list", false, rfl, .ty _, .base (.tup h), kit_ty (by decide +kernel), ?_⟩
      walk_at "go"
      refine Or.inl ⟨_, _, .type "tuple", .type "dict", false, rfl, .ty _, .base (.tup h), kit_ty (by decide +kernel), ?_⟩
      walk_at "go"
      exact .tups h l a k
    | @lists p o xs ys h l a b k s =>
      walk_at "go"
      refine Or.inl ⟨_, _, .type "tuple", .type "list", false, rfl, .ty _, .base (.tup h), kit_ty (by decide +kernel), ?_⟩
      walk_at "go"
      refine Or.inl ⟨_, _, .type "tuple", .type "dict", false, rfl, .ty _, .base (.tup h), kit_ty (by decide +kernel), ?_⟩
      walk_at "go"
      exact .lists h l a b k s
  rintro σ' H' ⟨rfl, e', hA'⟩
  cases hA' with
  | @list l xs b h =>
    walk_at "go"
    refine Or.inl ⟨_, _, .type "list", .type "tuple", false, rfl, .ty _, .base (.lst h), kit_ty (by decide +kernel), ?_⟩
    walk_at "go"
    exact q _ e'
  | @dict t xs b h n =>
    walk_at "go"
    refine Or.inr ⟨t, xs, .ty "tuple", .type "tuple", false, rfl, .inl h, .ty _, kit_ty (by decide +kernel), ?_⟩
    walk_at "go"
    exact q _ e'
  | num o =>
    cases o with
    | none =>
      walk_at "go"
      refine Or.inl ⟨_, _, .type "NoneType", .type "tuple", false, rfl, .ty _, .base .non, kit_ty (by decide +kernel), ?_⟩
      walk_at "go"
      exact q _ e'
    | some m =>
      walk_at "go"
      refine Or.inl ⟨_, _, .type "int", .type "tuple", false, rfl, .ty _, .base (.int _), kit_ty (by decide +kernel), ?_⟩
      walk_at "go"
      exact q _ e'
  | @few p xs h l =>
    walk_at "go"
    refine Or.inl ⟨_, _, .type "tuple", .type "tuple", true, rfl, .ty _, .base (.tup h), rfl, ?_⟩
    walk_at "go"
    refine iteFb (decF (by omega)) ?_
    walk_at "go"
    exact iteFb rfl (q _ e')
  | @nums p xs m h l a =>
    walk_at "go"
    refine Or.inl ⟨_, _, .type "tuple", .type "tuple", true, rfl, .ty _, .base (.tup h), rfl, ?_⟩
    walk_at "go"
    refine iteTb (decT (by omega)) ?_
    walk_at "go"
    refine ⟨_, _, .type "int", .type "list", false, rfl, .ty _, .base (.int _), kit_ty (by decide +kernel), ?_⟩
    walk_at "go"
    exact q _ e'
  | @tups p c xs ys h l a k =>
    walk_at "go"
    refine Or.inl ⟨_, _, .type "tuple", .type "tuple", true, rfl, .ty _, .base (.tup h), rfl, ?_⟩
    walk_at "go"
    refine iteTb (decT (by omega)) ?_
    walk_at "go"
    refine ⟨_, _, .type "tuple", .type "list", false, rfl, .ty _, .base (.tup k), kit_ty (by decide +kernel), ?_⟩
    walk_at "go"
    exact q _ e'
  | @lists p o xs ys h l a b k s =>
    walk_at "go"
    refine Or.inl ⟨_, _, .type "tuple", .type "tuple", true, rfl, .ty _, .base (.tup h), rfl, ?_⟩
    walk_at "go"
    refine iteTb (decT (by omega)) ?_
    walk_at "go"
    refine ⟨_, _, .type "list", .type "list", true, rfl, .ty _, .base (.lst k), rfl, ?_⟩
    walk_at "go"
    refine ⟨Or.inl ⟨rfl, _, SqL.of k⟩, ?_⟩
    walk_at "go"
    refine ⟨o, _, _, rfl, rfl, k, Evl.sz_lt (by omega), ?_⟩
    exact q _ (Evl.Ex.mut e' b)
/-! #### _law_far -/
def farOf (ring : Bool) (len a b : Int) : Int := if ring = true then (if len - (if a - b < 0 then -(a - b) else a - b) < (if a - b < 0 then -(a - b) else a - b) then len - (if a - b < 0 then -(a - b) else a - b) else (if a - b < 0 then -(a - b) else a - b)) else (if a - b < 0 then -(a - b) else a - b)
theorem far_is {ring : Bool} {len a b : Int} (hn : 0 < len) (a0 : onRoad ring len a) (b0 : onRoad ring len b) : farOf ring len a b = apartOf ring len a b := by
  obtain ⟨a0, a1⟩ := a0
  obtain ⟨b0, b1⟩ := b0
  unfold farOf apartOf wayOf
  cases ring with
  | false =>
    simp only [Bool.false_eq_true, if_false]
    split <;> split <;> omega
  | true =>
    have a1' : a < len := a1
    have b1' : b < len := b1
    have e : (b - a) % len = if a ≤ b then b - a else b - a + len := by
      split
      · exact Int.emod_eq_of_lt (by omega) (by omega)
      · rw [← Int.add_emod_right]
        exact Int.emod_eq_of_lt (by omega) (by omega)
    simp only [if_true]
    rw [e]
    split <;> split <;> split <;> (try split) <;> (try split) <;> omega
def sp_law_far (K : PySem.W.Frag) : Sp := fun vs H Q _ => ∃ (r : Addr) (ring : Bool) (len one other : Int), vs = [.ref r, .int one, .int other] ∧ SqT K H r (roadV ring len) ∧ Q (.int (farOf ring len one other)) H
set_option maxHeartbeats 4000000 in
theorem ok_law_far (T : Txt K mg D) : FnOk P w K mg base CX0 1 (He.ga K "_law_far") (D "_law_far") ["_law_road", "_law_one", "_law_other"] (sp_law_far K) := by
  refine T.F_law_far.ok sc_law_far (fun vs H Q E h => ?_) (fun cdv A outer s H vs Q E hr h => ?_)
  · obtain ⟨_, _, _, _, _, rfl, _⟩ := h
    rfl
  obtain ⟨r, ring, len, one, other, rfl, hR, q⟩ := h
  refine ⟨_, PSs.nox (pss_cons (ps_set (i := 3) sc_law_far.nd rfl (Or.inl rfl) (pe_callB call_abs rfl T.m_abs (by decide +kernel) (pa_cons (pe_op op_sub (pv 1) (pv 2)) pa_nil)))
    (pss_one (ps_ret (pe_ifExp (pt_cmpR op_eq (pe_ix ix_tup (pv 0) pe_int (fun _ _ => rfl)) pe_str (nomark _)) (pe_callB (call_min2 rfl) rfl T.m_min (by decide +kernel) (pa_cons (pv 3) (pa_cons (pe_op op_sub (pe_ix ix_tup (pv 0) pe_int (fun _ _ => rfl)) (pv 3)) pa_nil))) (pv 3))))), ?_⟩
  have rd0 : atI (roadV ring len) 0 = some (.str (wordOf ring)) := rfl
  have rd1 : atI (roadV ring len) 1 = some (.int len) := rfl
  walk_at "go"
  refine iteB (fun c => ?_) (fun c => ?_)
  · have hr := (word_ring ring).mp (odt c)
    subst hr
    walk_at "go"
    exact q
  · have hr : ring = false := by
      cases ring with
      | false => rfl
      | true => exact absurd ((word_ring true).mpr rfl) (odf c)
    subst hr
    walk_at "go"
    exact q
/-! #### apart -/
def sp_apart (K : PySem.W.Frag) : Sp := fun vs H Q _ => ∃ (r : Addr) (ring : Bool) (len one other : Int), vs = [.ref r, .int one, .int other] ∧ SqT K H r (roadV ring len) ∧ 0 < len ∧ Q (.int (apartOf ring len one other)) H
set_option maxHeartbeats 4000000 in
theorem ok_apart (T : Txt K mg D) : FnOk P w K mg base CX0 2 (He.ga K "apart") (D "apart") ["road", "one", "other"] (sp_apart K) := by
  refine T.F_apart.ok sc_apart (fun vs H Q E h => ?_) (fun cdv A outer s H vs Q E hr h => ?_)
  · obtain ⟨_, _, _, _, _, rfl, _⟩ := h
    rfl
  obtain ⟨r, ring, len, one, other, rfl, hS, hl, q⟩ := h
  refine ⟨_, PSs.nox (pss_one (ps_ret (pe_callB call_abs rfl T.m_abs (by decide +kernel) (pa_cons (pe_call (ok_way T) hr rfl T.m_way T.F_way.kp T.b_way .nil pass0 (pa_cons (pv 0) (pa_cons (pv 1) (pa_cons (pv 2) pa_nil)))) pa_nil)))), ?_⟩
  walk_at "go"
  refine ⟨r, ring, len, one, other, rfl, hS, hl, ?_⟩
  walk_at "go"
  exact q
/-! #### check_stop -/
def sp_check_stop (K : PySem.W.Frag) : Sp := fun vs H Q E => ∃ (r t : Addr) (ring : Bool) (len : Int) (s : Stp), vs = [.ref r, .ref t] ∧ SqT K H r (roadV ring len) ∧ SqT K H t (stopV s) ∧
  (stopFlt ring len s = none → Q .non H) ∧ (∀ f, stopFlt ring len s = some f → E (.ref (fltC K f)) none H)
set_option maxHeartbeats 4000000 in
theorem ok_check_stop (T : Txt K mg D) : FnOk P w K mg base (L2.CX P w) 2 (He.ga K "check_stop") (D "check_stop") ["road", "stop"] (sp_check_stop K) := by
  refine T.F_check_stop.ok sc_check_stop (fun vs H Q E h => ?_) (fun cdv A outer s H vs Q E hr h => ?_)
  · obtain ⟨_, _, _, _, _, rfl, _⟩ := h
    rfl
  obtain ⟨r, t, ring, len, s, rfl, hR, hS, q1, q2⟩ := h
  refine ⟨_, (pss_cons (ps_asg (pv 1) (pg_tup rfl (pgs_cons (pg_name (i := 2) sc_check_stop.nd rfl (Or.inl rfl)) (pgs_cons (pg_name (i := 3) sc_check_stop.nd rfl (Or.inl rfl)) (pgs_cons (pg_name (i := 4) sc_check_stop.nd rfl (Or.inl rfl)) (pgs_cons (pg_name (i := 5) sc_check_stop.nd rfl (Or.inl rfl)) pgs_nil))))))
    (pss_cons (ps_if (pt_not (pt_val (pe_call (ok_has_place T) hr rfl T.m_has_place T.F_has_place.kp T.b_has_place .nil pass0 (pa_cons (pv 0) (pa_cons (pv 2) pa_nil))))) (pss_one (ps_raise rfl (takes_of rfl rfl rfl rfl) (pmk_own PySem.F.excBase_ValueError T.x_OffRoad T.m_OffRoad T.kp_OffRoad (raises_own T.sb_OffRoad T.ty_OffRoad) (by exact rfl)))) pss_nil)
    (pss_cons (ps_if (pt_not (PW.pt (pw_and (pt_val (pe_call (ok_is_time T) hr rfl T.m_is_time T.F_is_time.kp T.b_is_time .nil pass0 (pa_cons (pv 3) pa_nil))) (pw_and (pt_val (pe_call (ok_is_time T) hr rfl T.m_is_time T.F_is_time.kp T.b_is_time .nil pass0 (pa_cons (pv 4) pa_nil))) (pw_and1 (pt_val (pe_call (ok_is_time T) hr rfl T.m_is_time T.F_is_time.kp T.b_is_time .nil pass0 (pa_cons (pv 5) pa_nil)))))))) (pss_one (ps_raise rfl (takes_of rfl rfl rfl rfl) (pmk_own PySem.F.excBase_ValueError T.x_BadTime T.m_BadTime T.kp_BadTime (raises_own T.sb_BadTime T.ty_BadTime) (by exact rfl)))) pss_nil)
    (pss_one (ps_if (pt_cmpR op_lt (pv 4) (pv 3) (nomark _)) (pss_one (ps_raise rfl (takes_of rfl rfl rfl rfl) (pmk_own PySem.F.excBase_ValueError T.x_BadTime T.m_BadTime T.kp_BadTime (raises_own T.sb_BadTime T.ty_BadTime) (by exact rfl)))) pss_nil))))), ?_⟩
  refine ⟨_, rfl, t, _, rfl, hS, rfl, ?_⟩
  walk_at "go"
  refine ⟨r, ring, len, s.1, rfl, hR, ?_⟩
  walk_at "go"
  refine iteB (fun c => ?_) (fun c => ?_)
  · have c1 : ¬ onRoad ring len s.1 := fun z => by rw [decide_eq_true (show 0 ≤ s.1 ∧ s.1 < placesOf ring len from z)] at c; exact absurd c (by decide)
    exact q2 .off (by unfold stopFlt; rw [if_pos c1])
  · have c1 : onRoad ring len s.1 := by
      by_cases z : onRoad ring len s.1
      · exact z
      · rw [decide_eq_false (show ¬ (0 ≤ s.1 ∧ s.1 < placesOf ring len) from z)] at c; exact absurd c (by decide)
    have badT : ¬ (isTime s.2.1 ∧ isTime s.2.2.1 ∧ isTime s.2.2.2) → E (.ref (He.ga K "BadTime")) none H := fun z => q2 .time (by unfold stopFlt; rw [if_neg (fun y => y c1), if_pos z])
    walk_at "go"
    refine iteB (fun t1 => ?_) (fun t1 => ?_)
    case refine_2 =>
      refine iteTb rfl ?_
      exact badT fun z => of_decide_eq_false t1 z.1
    walk_at "go"
    refine iteB (fun t2 => ?_) (fun t2 => ?_)
    case refine_2 =>
      refine iteTb rfl ?_
      exact badT fun z => of_decide_eq_false t2 z.2.1
    walk_at "go"
    refine iteB (fun t3 => ?_) (fun t3 => ?_)
    · refine badT fun z => ?_
      rw [decide_eq_true z.2.2] at t3
      exact absurd t3 (by decide)
    have t3' : isTime s.2.2.2 := by
      by_cases z : isTime s.2.2.2
      · exact z
      · rw [decide_eq_false z] at t3; exact absurd t3 (by decide)
    have hT : isTime s.2.1 ∧ isTime s.2.2.1 ∧ isTime s.2.2.2 := ⟨of_decide_eq_true t1, of_decide_eq_true t2, t3'⟩
    walk_at "go"
    refine iteB (fun c2 => ?_) (fun c2 => ?_)
    · exact q2 .time (by unfold stopFlt; rw [if_neg (fun y => y c1), if_neg (fun y => y hT), if_pos (of_decide_eq_true c2)])
    · exact q1 (by unfold stopFlt; rw [if_neg (fun y => y c1), if_neg (fun y => y hT), if_neg (of_decide_eq_false c2)])
/-! #### numbers_of -/
def sp_numbers_of (K : PySem.W.Frag) : Sp := fun vs H Q _ => ∃ (na : Addr) (names : List (List Nat)) (ns : List Int) (ws : List (List Nat)), vs = [.str (S (joinL [32] ws)), .ref na] ∧ SqT K H na (names.map fun x => V.str (S x)) ∧ RowOk names ns ws ∧
  ∀ p H', Ex H H' → H p = none → H' p = some (.lst (ns.map V.int)) → Q (.ref p) H'
set_option maxHeartbeats 4000000 in
theorem ok_numbers_of (T : Txt K mg D) : FnOk P w K mg base (L2.CX P w) 2 (He.ga K "numbers_of") (D "numbers_of") ["row", "names"] (sp_numbers_of K) := by
  refine T.F_numbers_of.ok sc_numbers_of (fun vs H Q E h => ?_) (fun cdv A outer s H vs Q E hr h => ?_)
  · obtain ⟨_, _, _, _, rfl, _⟩ := h
    rfl
  obtain ⟨na, names, ns, ws, rfl, hN, ok, q⟩ := h
  refine ⟨_, (pss_cons (ps_set (i := 2) sc_numbers_of.nd rfl (Or.inl rfl) (pe_m1 PySem.F.slot_str_split PySem.F.type_str_split mt_split (pv 0) pe_str))
    (pss_cons (ps_if (PW.pt (pw_or (pt_cmpR op_ne (pe_callB call_len_seq rfl T.m_len PySem.boot_len (pa_cons (pv 2) pa_nil)) (pe_op op_mul pe_int (pe_callB call_len_seq rfl T.m_len PySem.boot_len (pa_cons (pv 1) pa_nil))) (nomark _)) (pw_or1 (pt_cmpR (op_neD hr.units) (pe_callTy call_tuple_of rfl T.m_tuple (by decide +kernel) (pa_cons (pe_sliceStep (by decide) (pv 2) po_none po_none) pa_nil)) (pv 1) (nomark _))))) (pss_one (ps_raise rfl (takes_of rfl rfl rfl rfl) (pmk_own PySem.F.excBase_ValueError T.x_NoDay T.m_NoDay T.kp_NoDay (raises_own T.sb_NoDay T.ty_NoDay) (by exact rfl)))) pss_nil)
    (pss_one (ps_ret (pe_lc (own := [("word", 3)]) (g := gName 3) (tt := tYes) rfl sc_numbers_of.nd (pi_list (pe_sliceStep (by decide) (pv 2) (po_some pe_int) po_none)) (blkOk_by (own := [("word", 3)]) (N := N_numbers_of) (sc := defScope s_numbers_of) (by decide +kernel)) (fun _ _ _ _ _ => pg_name (i := 3) sc_numbers_of.nd rfl (Or.inl rfl)) (fun _ _ _ _ _ => pts_nil) (fun _ _ _ _ _ => (by refine' pe_eq (t' := ?tt5) (pe_call (ok_number_of T) hr rfl T.m_number_of T.F_number_of.kp T.b_number_of .nil passL (pa_cons (pv 3) pa_nil)) ?qq5; case qq5 => (first | (dsimp only [L2.Cx.blk]; done) | (dsimp only [L2.Cx.blk]; rfl) | rfl)))))))), ?_⟩
  walk_at "go"
  refine ⟨⟨_, rfl⟩, ?_⟩
  walk_at "go"
  have hsz := ok.size
  have fr := ok.free
  obtain ⟨le1, le2, le3, le4⟩ := ok.len
  have wne : ws ≠ [] := fun z => by rw [z] at le1; simp at le1; omega
  refine ⟨Evl.sz_of (by rw [S_len]; omega), fun p hp => ?_⟩
  rw [sp_S, split_rows (by decide) wne (fun w hw => (fr w hw).1), List.map_map]
  have e1 := Evl.Ex.new (o := .lst (ws.map (V.str ∘ S))) hp
  have h1 : (upd H p (.lst (ws.map (V.str ∘ S)))) p = some (.lst (ws.map (V.str ∘ S))) := upd_same
  generalize upd H p (.lst (ws.map (V.str ∘ S))) = H1 at e1 h1
  have hN1 := Evl.ex_t e1 hN
  have lw : (ws.map (V.str ∘ S)).length = ws.length := List.length_map _
  have ln : (names.map fun x => V.str (S x)).length = names.length := List.length_map _
  have hws : SqL K H1 p (ws.map (V.str ∘ S)) := SqL.of h1
  have hev := ok.ev (f := V.str ∘ S)
  have hod := ok.od (f := V.str ∘ S)
  walk_at "go"
  refine iteFb (by rw [decT (congrArg V.int (show (((ws.map (V.str ∘ S)).length : Nat) : Int) = 2 * (((names.map fun x => V.str (S x)).length : Nat) : Int) by omega))]; rfl) ?_
  walk_at "go"
  rw [hev]
  refine ⟨Evl.sz_of (by rw [List.length_map]; omega), fun p2 hp2 => ?_⟩
  have e2 := Evl.Ex.new (o := .lst (names.map (V.str ∘ S))) hp2
  have h2 : (upd H1 p2 (.lst (names.map (V.str ∘ S)))) p2 = some (.lst (names.map (V.str ∘ S))) := upd_same
  generalize upd H1 p2 (.lst (names.map (V.str ∘ S))) = H2 at e2 h2
  walk_at "go"
  refine ⟨_, _, rfl, Or.inl ⟨SqL.of h2, fun p3 hp3 => ?_⟩⟩
  have e3 := Evl.Ex.new (o := .tup (names.map (V.str ∘ S))) hp3
  have h3 : (upd H2 p3 (.tup (names.map (V.str ∘ S)))) p3 = some (.tup (names.map fun x => V.str (S x))) := upd_same
  generalize upd H2 p3 (.tup (names.map (V.str ∘ S))) = H3 at e3 h3
  have e13 := e2.trans e3
  walk_at "go"
  have shp := shaped_strs (ls := names) fun x hx => (ok.names x hx).2.2
  refine ⟨strsD names, strsD names, strs_dp (SqT.of h3), strs_dp (Evl.ex_t e13 hN1), shp, shp, ?_⟩
  rw [eqv_self shp]
  have hws3 : SqL K H3 p (ws.map (V.str ∘ S)) := SqL.of (e13 _ _ h1)
  walk_at "go"
  rw [hod]
  have lns : (ns.map fun m => (V.str ∘ S) (num m)).length = ns.length := List.length_map _
  refine ⟨Evl.sz_of (by rw [lns]; omega), fun p4 hp4 => ?_⟩
  have e4 := Evl.Ex.new (o := .lst (ns.map fun m => (V.str ∘ S) (num m))) hp4
  have h4 : (upd H3 p4 (.lst (ns.map fun m => (V.str ∘ S) (num m)))) p4 = some (.lst (ns.map fun m => (V.str ∘ S) (num m))) := upd_same
  generalize upd H3 p4 (.lst (ns.map fun m => (V.str ∘ S) (num m))) = H4 at e4 h4
  have e04 := (e1.trans e13).trans e4
  walk_at "go"
  refine ⟨⟨_, SqL.of h4⟩, fun D hDn => lc_list (K := K) (a := p4) (xs := ns.map fun m => (V.str ∘ S) (num m)) (fun i H' => Ex H4 H' ∧ H' D = some (.lst ((ns.take i).map V.int))) ⟨Evl.Ex.new hDn, upd_same⟩ (fun i H' _ z => Evl.ex_l z.1 (SqL.of h4)) ?_ ?_⟩
  · rintro i y H' hi ⟨ex, hd⟩
    rw [List.getElem?_map] at hi
    cases hn : ns[i]? with
    | none => rw [hn] at hi; cases hi
    | some m =>
      rw [hn] at hi
      obtain rfl := Option.some.inj hi
      obtain ⟨m0, m1⟩ := ok.nums m (List.mem_of_getElem? hn)
      have il : i < ns.length := by
        obtain ⟨z1, _⟩ := List.getElem?_eq_some_iff.mp hn
        exact z1
      have tk : ns.take (i + 1) = ns.take i ++ [m] := by rw [List.take_succ, hn]; rfl
      walk_at "go"
      refine ⟨_, hd, Evl.sz_lt (by rw [List.length_map, List.length_take]; omega), Evl.Ex.mut ex hDn, ?_⟩
      rw [upd_same, tk, List.map_append]
      rfl
  rintro H5 ⟨e5, hD⟩
  rw [lns, List.take_length] at hD
  walk_at "go"
  exact q D H5 (e04.trans e5) (none_of_ex e04 hDn) hD
/-! #### _law_road_by -/
def sp_law_road_by (K : PySem.W.Frag) : Sp := fun vs H Q _ => ∃ (c : Int), vs = [.int c] ∧ ∀ (ring : Bool) (len : Int) (r : Addr) (H' : Hp), 1 ≤ len → len ≤ 1000000000 → Ex H H' → H r = none → H' r = some (.tup (roadV ring len)) → Q (.ref r) H'
theorem at4 {a b c d i : Int} (h0 : 0 ≤ i) (h4 : i < 4) : ∃ v, atI [V.int a, V.int b, V.int c, V.int d] i = some (.int v) ∧ (v = a ∨ v = b ∨ v = c ∨ v = d) := by
  have : i = 0 ∨ i = 1 ∨ i = 2 ∨ i = 3 := by omega
  rcases this with rfl | rfl | rfl | rfl
  · exact ⟨a, rfl, by simp⟩
  · exact ⟨b, rfl, by simp⟩
  · exact ⟨c, rfl, by simp⟩
  · exact ⟨d, rfl, by simp⟩
theorem at3 {a b c i : Int} (h0 : 0 ≤ i) (h4 : i < 3) : ∃ v, atI [V.int a, V.int b, V.int c] i = some (.int v) ∧ (v = a ∨ v = b ∨ v = c) := by
  have : i = 0 ∨ i = 1 ∨ i = 2 := by omega
  rcases this with rfl | rfl | rfl
  · exact ⟨a, rfl, by simp⟩
  · exact ⟨b, rfl, by simp⟩
  · exact ⟨c, rfl, by simp⟩
theorem at2 {a b i : Int} (h0 : 0 ≤ i) (h4 : i < 2) : ∃ v, atI [V.int a, V.int b] i = some (.int v) ∧ (v = a ∨ v = b) := by
  have : i = 0 ∨ i = 1 := by omega
  rcases this with rfl | rfl
  · exact ⟨a, rfl, by simp⟩
  · exact ⟨b, rfl, by simp⟩
theorem atRoad {c : Int} : ∃ ring, atI [V.str "line", V.str "ring"] (c % 2) = some (.str (wordOf ring)) := by
  have : c % 2 = 0 ∨ c % 2 = 1 := by omega
  rcases this with h | h <;> rw [h]
  · exact ⟨false, rfl⟩
  · exact ⟨true, rfl⟩
set_option maxHeartbeats 4000000 in
theorem ok_law_road_by (T : Txt K mg D) : FnOk P w K mg base CX0 2 (He.ga K "_law_road_by") (D "_law_road_by") ["_law_cell"] (sp_law_road_by K) := by
  refine T.F_law_road_by.ok sc_law_road_by (fun vs H Q E h => ?_) (fun cdv A outer s H vs Q E hr h => ?_)
  · obtain ⟨_, rfl, _⟩ := h
    rfl
  obtain ⟨c, rfl, q⟩ := h
  refine ⟨_, PSs.nox (pss_cons (ps_set (i := 1) sc_law_road_by.nd rfl (Or.inl rfl) (pe_op op_add pe_int (pe_op op_mod (pe_op op_fdiv (pv 0) pe_int) pe_int)))
    (Evl.pss_cut (ps_if (pt_cmpR op_eq (pe_op op_mod (pe_op op_fdiv (pv 0) pe_int) pe_int) pe_int (nomark _)) (pss_one (ps_set (i := 1) sc_law_road_by.nd rfl (Or.inl rfl) (pe_op op_add pe_int (pe_call (ok_law_wide T) hr rfl T.m_law_wide T.F_law_wide.kp T.b_law_wide .nil pass0 (pa_cons (pe_op op_fdiv (pv 0) pe_int) (pa_cons (pe_op op_pow pe_int pe_int) pa_nil)))))) pss_nil)
    (Evl.pss_cut (ps_if (pt_cmpR op_eq (pe_op op_mod (pe_op op_fdiv (pv 0) pe_int) pe_int) pe_int (nomark _)) (pss_one (ps_set (i := 1) sc_law_road_by.nd rfl (Or.inl rfl) (pe_ix ix_list (pe_lst (pa_cons pe_int (pa_cons pe_int (pa_cons pe_int (pa_cons (pe_op op_pow pe_int pe_int) pa_nil))))) (pe_op op_mod (pe_op op_fdiv (pv 0) pe_int) pe_int) (fun _ _ => rfl)))) pss_nil)
    (pss_one (ps_ret (pe_tup (pa_cons (pe_ix ix_list (pe_lst (pa_cons pe_str (pa_cons pe_str pa_nil))) (pe_op op_mod (pv 0) pe_int) (fun _ _ => rfl)) (pa_cons (pv 1) pa_nil)))))))), ?_⟩
  have h9 : (10 : Int) ^ (9 : Int).toNat = 1000000000 := by decide +kernel
  walk_at "go"
  refine ⟨fun σ' H' => ∃ len, 1 ≤ len ∧ len ≤ 1000000000 ∧ σ' = [some (V.int c), some (V.int len)] ∧ Ex H H', ?_, ?_⟩
  · walk_at "go"
    refine iteB (fun b => ?_) (fun b => ?_)
    · walk_at "go"
      intro v v0 v1
      walk_at "go"
      exact ⟨_, by omega, by omega, rfl, Ex.refl H⟩
    · exact ⟨_, by omega, by omega, rfl, Ex.refl H⟩
  rintro σ' H1 ⟨len, l1, l2, rfl, e1⟩
  refine ⟨fun σ' H' => ∃ len, 1 ≤ len ∧ len ≤ 1000000000 ∧ σ' = [some (V.int c), some (V.int len)] ∧ Ex H H', ?_, ?_⟩
  · walk_at "go"
    refine iteB (fun b => ?_) (fun b => ?_)
    · walk_at "go"
      intro p hp
      walk_at "go"
      obtain ⟨v, hv, hv2⟩ := at4 (a := 1) (b := 2) (c := 3) (d := 10 ^ (9 : Int).toNat) (i := c / 50 % 4) (by omega) (by omega)
      refine ⟨p, _, _, _, rfl, rfl, SqL.of upd_same, hv, ?_⟩
      exact ⟨_, by omega, by omega, rfl, e1.trans (Evl.Ex.new hp)⟩
    · exact ⟨_, l1, l2, rfl, e1⟩
  rintro σ' H2 ⟨len, l1, l2, rfl, e2⟩
  walk_at "go"
  intro p hp
  walk_at "go"
  obtain ⟨ring, hr⟩ := atRoad (c := c)
  refine ⟨p, _, _, _, rfl, rfl, SqL.of upd_same, hr, ?_⟩
  walk_at "go"
  intro r hr
  have e3 : Ex H (upd H2 p (.lst [V.str "line", V.str "ring"])) := e2.trans (Evl.Ex.new hp)
  exact q ring len r _ l1 l2 (e3.trans (Evl.Ex.new hr)) (Evl.fresh_back e3 hr) upd_same
/-! #### _law_place_by -/
def sp_law_place_by (K : PySem.W.Frag) : Sp := fun vs H Q _ => ∃ (r : Addr) (ring : Bool) (len c : Int), vs = [.ref r, .int c] ∧ SqT K H r (roadV ring len) ∧ 1 ≤ len ∧ ∀ v H', 0 ≤ v → v < placesOf ring len → Ex H H' → Q (.int v) H'
set_option maxHeartbeats 4000000 in
theorem ok_law_place_by (T : Txt K mg D) : FnOk P w K mg base CX0 2 (He.ga K "_law_place_by") (D "_law_place_by") ["_law_road", "_law_cell"] (sp_law_place_by K) := by
  refine T.F_law_place_by.ok sc_law_place_by (fun vs H Q E h => ?_) (fun cdv A outer s H vs Q E hr h => ?_)
  · obtain ⟨_, _, _, _, rfl, _⟩ := h
    rfl
  obtain ⟨r, ring, len, c, rfl, hS, hl, q⟩ := h
  refine ⟨_, PSs.nox (pss_cons (ps_set (i := 2) sc_law_place_by.nd rfl (Or.inl rfl) (pe_call (ok_law_places T) hr rfl T.m_law_places T.F_law_places.kp T.b_law_places .nil pass0 (pa_cons (pv 0) pa_nil)))
    (pss_cons (ps_if (pt_cmpR op_eq (pe_op op_mod (pv 1) pe_int) pe_int (nomark _)) (pss_one (ps_ret (pe_ix ix_list (pe_lst (pa_cons pe_int (pa_cons (pe_op op_sub (pv 2) pe_int) (pa_cons (pe_op op_fdiv (pv 2) pe_int) pa_nil)))) (pe_op op_mod (pe_op op_fdiv (pv 1) pe_int) pe_int) (fun _ _ => rfl)))) pss_nil)
    (pss_one (ps_ret (pe_call (ok_law_wide T) hr rfl T.m_law_wide T.F_law_wide.kp T.b_law_wide .nil pass0 (pa_cons (pe_op op_fdiv (pv 1) pe_int) (pa_cons (pv 2) pa_nil))))))), ?_⟩
  have hm : 1 ≤ placesOf ring len := by unfold placesOf; split <;> omega
  walk_at "go"
  refine ⟨r, ring, len, rfl, hS, ?_⟩
  walk_at "go"
  refine iteB (fun b => ?_) (fun b => ?_)
  · walk_at "go"
    intro p hp
    walk_at "go"
    obtain ⟨v, hv, hv2⟩ := at3 (a := 0) (b := placesOf ring len - 1) (c := placesOf ring len / 2) (i := c / 7 % 3) (by omega) (by omega)
    exact ⟨p, _, _, _, rfl, rfl, SqL.of upd_same, hv, q _ _ (by omega) (by omega) (Evl.Ex.new hp)⟩
  · walk_at "go"
    exact fun v v0 v1 => q _ _ v0 v1 (Ex.refl H)
/-! #### _law_start_by -/
def sp_law_start_by (K : PySem.W.Frag) : Sp := fun vs H Q _ => ∃ (r : Addr) (ring : Bool) (len c : Int), vs = [.ref r, .int c] ∧ SqT K H r (roadV ring len) ∧ 1 ≤ len ∧ len ≤ 1000000000 ∧ ∀ v, 0 ≤ v → v ≤ 1000000000000 → Q (.int v) H
set_option maxHeartbeats 4000000 in
theorem ok_law_start_by (T : Txt K mg D) : FnOk P w K mg base CX0 2 (He.ga K "_law_start_by") (D "_law_start_by") ["_law_road", "_law_cell"] (sp_law_start_by K) := by
  refine T.F_law_start_by.ok sc_law_start_by (fun vs H Q E h => ?_) (fun cdv A outer s H vs Q E hr h => ?_)
  · obtain ⟨_, _, _, _, rfl, _⟩ := h
    rfl
  obtain ⟨r, ring, len, c, rfl, hS, l1, l2, q⟩ := h
  refine ⟨_, PSs.nox (pss_cons (ps_if (pt_cmpR op_eq (pe_op op_mod (pv 1) pe_int) pe_int (nomark _)) (pss_one (ps_ret pe_int)) pss_nil)
    (pss_cons (ps_if (pt_cmpR op_eq (pe_op op_mod (pv 1) pe_int) pe_int (nomark _)) (pss_one (ps_ret (pe_op op_mod (pe_op op_fdiv (pv 1) pe_int) (pe_op op_add (pe_op op_mul pe_int (pe_ix ix_tup (pv 0) pe_int (fun _ _ => rfl))) pe_int)))) pss_nil)
    (pss_one (ps_ret (pe_call (ok_law_wide T) hr rfl T.m_law_wide T.F_law_wide.kp T.b_law_wide .nil pass0 (pa_cons (pe_op op_fdiv (pv 1) pe_int) (pa_cons (pe_op op_add (pe_op op_pow pe_int pe_int) pe_int) pa_nil))))))), ?_⟩
  have h12 : (10 : Int) ^ (12 : Int).toNat = 1000000000000 := by decide +kernel
  walk_at "go"
  refine iteB (fun b => ?_) (fun b => ?_)
  · walk_at "go"
    exact q _ (by decide) (by decide)
  walk_at "go"
  refine iteB (fun b => ?_) (fun b => ?_)
  · walk_at "go"
    have h1 := Int.emod_nonneg (c / 3) (show 2 * len + 1 ≠ 0 by omega)
    have h2 := Int.emod_lt_of_pos (c / 3) (show 0 < 2 * len + 1 by omega)
    exact q _ h1 (by show c / 3 % (2 * len + 1) ≤ _; omega)
  walk_at "go"
  exact fun v v0 v1 => q v v0 (by rw [h12] at v1; omega)
/-! #### _law_order -/
def sp_law_order (K : PySem.W.Frag) : Sp := fun vs H Q _ => ∃ (a : Addr) (many : Nat) (k : Int) (ns : List Int), vs = [.ref a, .int (many : Nat), .int k] ∧ SqL K H a (ns.map V.int) ∧ ns.length ≤ 63 ∧ many ≤ 7 ∧
  ∀ (o : Addr) (os : List Int) (H' : Hp), ordOk os many → os.length ≤ 7 → Ex H H' → H o = none → H' o = some (.lst (os.map V.int)) → Q (.ref o) H'
set_option maxHeartbeats 4000000 in
theorem ok_law_order (T : Txt K mg D) : FnOk P w K mg base CX0 2 (He.ga K "_law_order") (D "_law_order") ["_law_script", "_law_many_here", "_law_k"] (sp_law_order K) := by
  refine T.F_law_order.ok sc_law_order (fun vs H Q E h => ?_) (fun cdv A outer s H vs Q E hr h => ?_)
  · obtain ⟨_, _, _, _, rfl, _⟩ := h
    rfl
  obtain ⟨a, many, k0, ns, rfl, hS, hn, hm, q⟩ := h
  refine ⟨_, PSs.nox (pss_cons (ps_set (i := 3) sc_law_order.nd rfl (Or.inl rfl) (pe_lst pa_nil))
    (pss_cons (ps_set (i := 4) sc_law_order.nd rfl (Or.inl rfl) (pe_listRg rfl rfl T.m_list (prg_1 rfl T.m_range (pv 1))))
    (pss_cons (ps_for PassesOwn.never rfl (pi_range1 rfl T.m_range (pa_cons (pe_op op_mod (pe_call (ok_law_cell_at T) hr rfl T.m_law_cell_at T.F_law_cell_at.kp T.b_law_cell_at .nil pass0 (pa_cons (pv 0) (pa_cons (pv 2) pa_nil))) (pe_op op_add (pv 1) pe_int)) pa_nil)) (pg_name (i := 5) sc_law_order.nd rfl (Or.inl rfl))
      (pss_cons (ps_set (i := 6) sc_law_order.nd rfl (Or.inl rfl) (pe_op op_mod (pe_op op_mod (pe_op op_fdiv (pe_call (ok_law_cell_at T) hr rfl T.m_law_cell_at T.F_law_cell_at.kp T.b_law_cell_at .nil pass0 (pa_cons (pv 0) (pa_cons (pv 2) pa_nil))) pe_int) (pe_op op_add (pv 5) pe_int)) (pe_callB call_len_seq rfl T.m_len PySem.boot_len (pa_cons (pv 4) pa_nil))))
      (pss_cons (ps_expr (pe_bm PySem.F.plainAttrs_list PySem.F.slot_list_append PySem.F.type_list_append mt_append (pv 3) (pa_cons (pe_ix ix_list (pv 4) (pv 6) (fun _ _ => rfl)) pa_nil)))
      (pss_one (ps_set (i := 4) sc_law_order.nd rfl (Or.inl rfl) (pe_op op_cat (pe_slice sl_list (pv 4) po_none (po_some (pv 6))) (pe_slice sl_list (pv 4) (po_some (pe_op op_add (pv 6) pe_int)) po_none)))))))
    (pss_one (ps_ret (pv 3)))))), ?_⟩
  walk_at "go"
  intro O hO
  have e1 := Evl.Ex.new (o := .lst []) hO
  have hO1 : (upd H O (.lst [])) O = some (.lst []) := upd_same
  generalize upd H O (.lst []) = H1 at e1 hO1
  walk_at "go"
  intro L hL
  rw [rg_all]
  generalize hls0 : allOf many = ls0
  have ok0 : ordOk ls0 many ∧ ls0.length = many := by
    subst hls0
    exact ⟨⟨fun x hx => mem_all.mp hx, (all_rise many).imp fun h => by omega⟩, all_len many⟩
  have nOL : O ≠ L := ne_of_none hO1 hL
  have e2 : Ex H (upd H1 L (.lst (ls0.map V.int))) := e1.trans (Evl.Ex.new hL)
  have hO2 : (upd H1 L (.lst (ls0.map V.int))) O = some (.lst []) := by rw [upd_ne nOL]; exact hO1
  have hL2 : (upd H1 L (.lst (ls0.map V.int))) L = some (.lst (ls0.map V.int)) := upd_same
  generalize upd H1 L (.lst (ls0.map V.int)) = H2 at e2 hO2 hL2
  walk_at "go"
  refine ⟨a, ns, k0, rfl, Evl.ex_l e2 hS, hn, fun c0 => ?_⟩
  have m0 := Int.emod_nonneg c0 (show ((many : Int) + 1) ≠ 0 by omega)
  have m1 := Int.emod_lt_of_pos c0 (show 0 < ((many : Int) + 1) by omega)
  walk_at "go"
  refine for_range (lo := 0) (n := (c0 % ((many : Int) + 1)).toNat) (fun i σ H' => ∃ (L : Addr) (x5 x6 : Option V) (os ls : List Int), σ = [some (.ref a), some (.int (many : Nat)), some (.int k0), some (.ref O), some (.ref L), x5, x6] ∧ Ex H H' ∧ H' O = some (.lst (os.map V.int)) ∧ H' L = some (.lst (ls.map V.int)) ∧ os.length = i ∧ (os ++ ls).Perm ls0 ∧ O ≠ L) ⟨L, _, _, [], ls0, rfl, e2, hO2, hL2, rfl, List.Perm.refl _, nOL⟩ ?_ ?_
  · rintro i σ H3 hi ⟨L3, x5, x6, os, ls, rfl, e3, hO3, hL3, lo, pe, n3⟩
    have ll := pe.length_eq
    rw [List.length_append, ok0.2] at ll
    have hll : (ls.map V.int).length = ls.length := List.length_map _
    have hlo : (os.map V.int).length = os.length := List.length_map _
    have lp : (0 : Int) < (((ls.map V.int).length : Nat) : Int) := by omega
    have hL3s : SqL K H3 L3 (ls.map V.int) := SqL.of hL3
    walk_at "go"
    refine ⟨a, ns, k0, rfl, Evl.ex_l e3 hS, hn, fun v0 => ?_⟩
    walk_at "go"
    generalize hv : v0 / 7 % (0 + (i : Int) + 3) = v
    have hk0 := Int.emod_nonneg v (show (((ls.map V.int).length : Nat) : Int) ≠ 0 by omega)
    have hk1 := Int.emod_lt_of_pos v lp
    obtain ⟨k, hk⟩ : ∃ k : Nat, v % (((ls.map V.int).length : Nat) : Int) = k := ⟨(v % (((ls.map V.int).length : Nat) : Int)).toNat, by omega⟩
    have kl : k < ls.length := by omega
    have hzk : ls[k]? = some ls[k] := List.getElem?_eq_getElem kl
    generalize ls[k] = z at hzk
    have hz : atI (ls.map V.int) (v % (((ls.map V.int).length : Nat) : Int)) = some (.int z) := by
      rw [hk]
      exact atI_nat (by rw [List.getElem?_map, hzk]; rfl)
    refine ⟨Or.inl ⟨rfl, _, SqL.of hO3⟩, ?_⟩
    walk_at "go"
    refine ⟨O, _, _, rfl, rfl, hO3, Evl.sz_lt (by rw [List.length_map]; omega), ?_⟩
    have hL4 : (upd H3 O (.lst (os.map V.int ++ [.int z]))) L3 = some (.lst (ls.map V.int)) := by rw [upd_ne (Ne.symm n3)]; exact hL3
    have e4 : Ex H (upd H3 O (.lst (os.map V.int ++ [.int z]))) := Evl.Ex.mut e3 hO
    have hO4 : (upd H3 O (.lst (os.map V.int ++ [.int z]))) O = some (.lst (os.map V.int ++ [.int z])) := upd_same
    generalize upd H3 O (.lst (os.map V.int ++ [.int z])) = H4 at hL4 e4 hO4
    obtain ⟨cut1, cut2⟩ := cut_out (ls := ls) (k := k) kl
    rw [← hk] at cut1
    walk_at "go"
    intro p1 hp1
    walk_at "go"
    have hL5 := (Evl.Ex.new (o := .lst (cutV (ls.map V.int) none (some (v % (((ls.map V.int).length : Nat) : Int))))) hp1) _ _ hL4
    refine ⟨L3, _, rfl, SqL.of hL5, fun p2 hp2 => ?_⟩
    have n12 : p1 ≠ p2 := fun y => by rw [← y, upd_same] at hp2; cases hp2
    have le1 := cutV_length (ls.map V.int) none (some (v % (((ls.map V.int).length : Nat) : Int)))
    have le2 := cutV_length (ls.map V.int) (some (v % (((ls.map V.int).length : Nat) : Int) + 1)) none
    refine ⟨p1, p2, _, _, rfl, rfl, (by rw [upd_ne n12]; exact upd_same), upd_same, Evl.sz_of (by omega), fun p3 hp3 => ?_⟩
    refine ⟨p3, _, _, os ++ [z], ls.take k ++ ls.drop (k + 1), rfl, ?_, ?_, ?_, ?_, ?_, ?_⟩
    · exact ((e4.trans (Evl.Ex.new hp1)).trans (Evl.Ex.new hp2)).trans (Evl.Ex.new hp3)
    · rw [List.map_append]
      exact (((Evl.Ex.new hp1).trans (Evl.Ex.new hp2)).trans (Evl.Ex.new hp3)) _ _ hO4
    · rw [upd_same]
      exact congrArg (fun l => some (HO.lst l)) cut1
    · rw [List.length_append, lo]
      rfl
    · rw [List.append_assoc]
      exact (List.Perm.append_left os (perm_out hzk)).symm.trans pe
    · exact ne_of_none (((Evl.Ex.new hp1).trans (Evl.Ex.new hp2)) _ _ hO4) hp3
  · rintro σ H3 ⟨L3, x5, x6, os, ls, rfl, e3, hO3, hL3, lo, pe, n3⟩
    have ll := pe.length_eq
    rw [List.length_append, ok0.2] at ll
    have oko : ordOk os many := by
      refine ⟨fun x hx => ok0.1.1 x (pe.subset (List.mem_append_left _ hx)), ?_⟩
      exact (List.nodup_append.mp (pe.nodup_iff.mpr ok0.1.2)).1
    walk_at "go"
    exact q O os H3 oko (by omega) e3 hO hO3
/-! #### _law_due_times -/
theorem ints_nil_eqv (fs : List Int) : PyData.eqv (intsD fs) (intsD []) = fs.isEmpty := by
  cases fs with
  | nil => exact eqv_self (shaped_ints [])
  | cons x r => simp [intsD, PyData.eqv, PyData.eqvAll]
def sp_law_due_times (P : Program) (W : World) (K : PySem.W.Frag) : Sp := fun vs H Q _ => ∃ (r sl o : Addr) (ring : Bool) (len home start : Int) (ps : List Addr) (sts : List Stp) (ns : List Int) (_u _v : Unit), vs = [.ref r, .int home, .int start, .ref sl, .ref o] ∧ SqT K H r (roadV ring len) ∧ SqL K H sl (ps.map V.ref) ∧ StopsR K H ps sts ∧ SqL K H o (ns.map V.int) ∧ GoodDay ring len home start sts ∧ ns.length ≤ 8 ∧ (∀ n ∈ ns, 0 ≤ n) ∧
  ∀ v H', Ex H H' → AnsR P W (fun p => H p = none) H' v (ansOf ring len home start sts ns 0) → Q v H'
set_option maxHeartbeats 4000000 in
theorem ok_law_due_times (T : Txt K mg D) : FnOk P w K mg base CX0 2 (He.ga K "_law_due_times") (D "_law_due_times") ["_law_road", "_law_home", "_law_start", "_law_stops", "_law_order_here"] (sp_law_due_times P w K) := by
  refine T.F_law_due_times.ok sc_law_due_times (fun vs H Q E h => ?_) (fun cdv A outer s H vs Q E hr h => ?_)
  · obtain ⟨_, _, _, _, _, _, _, _, _, _, _, _, rfl, _⟩ := h
    rfl
  obtain ⟨r, sl, o, ring, len, home, start, ps, sts, ns, _, _, rfl, hR, hSl, hP, hO, gd, h8, nn, q⟩ := h
  refine ⟨_, PSs.nox (pss_cons (ps_if (PW.pt (pw_or (pt_cmpR (op_neD hr.units) (pe_lc (own := [("_law_one", 5)]) (g := gName 5) (tt := _) rfl sc_law_due_times.nd (pi_list (pv 4)) (blkOk_by (own := [("_law_one", 5)]) (N := N_law_due_times) (sc := defScope s_law_due_times) (by decide +kernel)) (fun _ _ _ _ _ => pg_name (i := 5) sc_law_due_times.nd rfl (Or.inl rfl)) (fun _ _ _ _ _ => (by refine' pts_eq (t' := ?tq12) (pts_one (pt_cmpR op_ge (pv 5) (pe_callB call_len_seq rfl T.m_len PySem.boot_len (pa_cons (pv 3) pa_nil)) (nomark _))) ?qt12; case qt12 => (first | (dsimp only [L2.Cx.blk]; done) | (dsimp only [L2.Cx.blk]; rfl) | rfl))) (fun _ _ _ _ _ => (by refine' pe_eq (t' := ?tt12) (pv 5) ?qq12; case qq12 => (first | (dsimp only [L2.Cx.blk]; done) | (dsimp only [L2.Cx.blk]; rfl) | rfl)))) (pe_lst pa_nil) (nomark _)) (pw_or1 (pt_cmpR op_lt (pe_lenset rfl T.m_len rfl T.m_set (pv 4) rfl) (pe_callB call_len_seq rfl T.m_len PySem.boot_len (pa_cons (pv 4) pa_nil)) (nomark _))))) (pss_one (ps_ret (pe_tup (pa_cons pe_str pa_nil)))) pss_nil)
    (pss_cons (ps_set (i := 6) sc_law_due_times.nd rfl (Or.inl rfl) (pv 1))
    (pss_cons (ps_set (i := 7) sc_law_due_times.nd rfl (Or.inl rfl) (pv 2))
    (pss_cons (ps_set (i := 8) sc_law_due_times.nd rfl (Or.inl rfl) (pe_lst pa_nil))
    (pss_cons (ps_for PassesOwn.never rfl (pi_list (pv 4)) (pg_name (i := 5) sc_law_due_times.nd rfl (Or.inl rfl))
      (pss_cons (ps_asg (pe_ix ix_list (pv 3) (pv 5) (fun _ _ => rfl)) (pg_tup rfl (pgs_cons (pg_name (i := 9) sc_law_due_times.nd rfl (Or.inl rfl)) (pgs_cons (pg_name (i := 10) sc_law_due_times.nd rfl (Or.inl rfl)) (pgs_cons (pg_name (i := 11) sc_law_due_times.nd rfl (Or.inl rfl)) (pgs_cons (pg_name (i := 12) sc_law_due_times.nd rfl (Or.inl rfl)) pgs_nil))))))
      (pss_cons (ps_set (i := 13) sc_law_due_times.nd rfl (Or.inl rfl) (pe_op op_add (pv 7) (pe_call (ok_law_far T) hr rfl T.m_law_far T.F_law_far.kp T.b_law_far .nil pass0 (pa_cons (pv 0) (pa_cons (pv 6) (pa_cons (pv 9) pa_nil))))))
      (pss_cons (ps_if (pt_cmpR op_gt (pe_callB (call_max2 rfl) rfl T.m_max (by decide +kernel) (pa_cons (pv 13) (pa_cons (pv 10) pa_nil))) (pv 11) (nomark _)) (pss_one (ps_ret (pe_tup (pa_cons pe_str pa_nil)))) pss_nil)
      (pss_cons (ps_set (i := 7) sc_law_due_times.nd rfl (Or.inl rfl) (pe_op op_add (pe_callB (call_max2 rfl) rfl T.m_max (by decide +kernel) (pa_cons (pv 13) (pa_cons (pv 10) pa_nil))) (pv 12)))
      (pss_cons (ps_set (i := 6) sc_law_due_times.nd rfl (Or.inl rfl) (pv 9))
      (pss_one (ps_expr (pe_bm PySem.F.plainAttrs_list PySem.F.slot_list_append PySem.F.type_list_append mt_append (pv 8) (pa_cons (pe_tup (pa_cons (pv 13) (pa_cons (pe_callB (call_max2 rfl) rfl T.m_max (by decide +kernel) (pa_cons (pv 13) (pa_cons (pv 10) pa_nil))) (pa_cons (pv 7) pa_nil)))) pa_nil))))))))))
    (pss_one (ps_ret (pv 8)))))))), ?_⟩
  dsimp only [L2.cxOf, L2.Cx.nox]
  have hl0 : 0 < len := by have := gd.1; omega
  have lps : (ps.map V.ref).length = sts.length := by rw [List.length_map]; exact hP.len
  have lns : (ns.map V.int).length = ns.length := List.length_map _
  have gst := gd.2.2.2.2.1
  have a0 : ansOf ring len home start sts ns 0 = errOr ns sts.length (match rowsOf ring len sts home start ns with | none => .err "missed" | some rs => .rows rs) := by unfold ansOf; rw [if_pos rfl]; try rfl
  rw [a0] at q
  walk_at "go"
  refine ⟨⟨_, hO⟩, fun D hDn => lc_list (K := K) (a := o) (xs := ns.map V.int) (fun i H' => Ex H H' ∧ H' D = some (.lst (((ns.take i).filter fun n => decide ((sts.length : Int) ≤ n)).map V.int))) ⟨Evl.Ex.new hDn, upd_same⟩ (fun i H' _ z => Evl.ex_l z.1 hO) ?_ ?_⟩
  · rintro i y H' hi ⟨ex, hd⟩
    obtain ⟨n, hn, rfl⟩ := map_int_get hi
    have hSl' := Evl.ex_l ex hSl
    have so : ((ns.take (i + 1)).filter fun n => decide ((sts.length : Int) ≤ n)) = ((ns.take i).filter fun n => decide ((sts.length : Int) ≤ n)) ++ (if (sts.length : Int) ≤ n then [n] else []) := by
      rw [List.take_succ, hn, List.filter_append]
      congr 1
      by_cases c : (sts.length : Int) ≤ n <;> simp [c]
    walk_at "go"
    refine iteB (fun c => ?_) (fun c => ?_)
    · have c1 := odt c
      rw [so, if_pos (by omega)]
      walk_at "go"
      refine ⟨_, hd, Evl.sz_lt ?_, Evl.Ex.mut ex hDn, ?_⟩
      · rw [List.length_map]
        have h1 := List.length_filter_le (fun n => decide ((sts.length : Int) ≤ n)) (ns.take i)
        rw [List.length_take] at h1
        omega
      · rw [upd_same, List.map_append]
        rfl
    · have c1 := odf c
      rw [so, if_neg (by omega), List.append_nil]
      exact ⟨ex, hd⟩
  rintro H1 ⟨e1, hD⟩
  rw [lns, List.take_length] at hD
  generalize hfs : (ns.filter fun n => decide ((sts.length : Int) ≤ n)) = fs at hD
  walk_at "go"
  intro z0 hz0
  have e2 := Evl.Ex.new (o := .lst []) hz0
  have hz1 : (upd H1 z0 (.lst [])) z0 = some (.lst (([] : List Int).map V.int)) := upd_same
  have hD2 := e2 _ _ hD
  generalize upd H1 z0 (.lst []) = H2 at e2 hz1 hD2
  have e02 := e1.trans e2
  have hO2 := Evl.ex_l e02 hO
  refine ⟨intsD fs, intsD [], ints_dp (SqL.of hD2), ints_dp (SqL.of hz1), shaped_ints _, shaped_ints _, ?_⟩
  rw [ints_nil_eqv]
  walk_at "go"
  have errA : ∀ H3 : Hp, Ex H H3 → ¬ ordOk ns sts.length → ∀ p, H3 p = none → Q (.ref p) (upd H3 p (.tup [.str "order"])) := fun H3 e3 bad p hp => by
    rw [errOr_bad bad] at q
    exact q (.ref p) _ (e3.trans (Evl.Ex.new hp)) ⟨.inr rfl, p, rfl, upd_same⟩
  refine iteB (fun c => ?_) (fun c => ?_)
  · walk_at "go"
    refine errA H2 e02 fun ok => ?_
    cases fs with
    | nil => cases c
    | cons x xs =>
      have hx : x ∈ ns.filter fun n => decide ((sts.length : Int) ≤ n) := by rw [hfs]; exact List.mem_cons_self ..
      obtain ⟨hx1, hx2⟩ := List.mem_filter.mp hx
      have := of_decide_eq_true hx2
      have := (ok.1 x hx1).2
      omega
  have fe : fs = [] := by
    cases fs with
    | nil => rfl
    | cons x xs => cases c
  have small : ∀ x ∈ ns, 0 ≤ x ∧ x < sts.length := fun x hx => by
    refine ⟨nn x hx, ?_⟩
    by_cases cc : (sts.length : Int) ≤ x
    · have hx : x ∈ ns.filter fun n => decide ((sts.length : Int) ≤ n) := List.mem_filter.mpr ⟨hx, decide_eq_true cc⟩
      rw [hfs, fe] at hx
      cases hx
    · omega
  walk_at "go"
  intro mm m1 m2
  walk_at "go"
  refine iteB (fun c => ?_) (fun c => ?_)
  · have c1 := odt c
    walk_at "go"
    refine errA H2 e02 fun ok => ?_
    have := m1 ok.2
    omega
  have c1 := odf c
  have nd : ns.Nodup := Decidable.byContradiction fun z => by have := m2 z; omega
  have ok : ordOk ns sts.length := ⟨small, nd⟩
  rw [errOr_ok ok] at q
  walk_at "go"
  intro R hRn
  have e3 := Evl.Ex.new (o := .lst []) hRn
  have hR3 : (upd H2 R (.lst [])) R = some (.lst (([] : List Addr).map V.ref)) := upd_same
  generalize upd H2 R (.lst []) = H3 at e3 hR3
  have e03 := e02.trans e3
  have fR : H R = none := none_of_ex e02 hRn
  walk_at "go"
  refine ⟨⟨_, Evl.ex_l e03 hO⟩, for_list (K := K) (a := o) (xs := ns.map V.int) (fun i σ H' => ∃ (pl lv : Int) (x5 x9 x10 x11 x12 x13 : Option V) (qs : List Addr) (rs : List Row), σ = [some (.ref r), some (.int home), some (.int start), some (.ref sl), some (.ref o), x5, some (.int pl), some (.int lv), some (.ref R), x9, x10, x11, x12, x13] ∧ Ex H H' ∧ H' R = some (.lst (qs.map V.ref)) ∧ RowsR H' qs rs ∧ rs.length = i ∧ onRoad ring len pl ∧ rowsOf ring len sts home start ns = (rowsOf ring len sts pl lv (ns.drop i)).map (fun z => rs ++ z)) ⟨home, start, _, _, _, _, _, _, [], [], rfl, e03, hR3, .nil, rfl, gd.2.2.1, (by simp)⟩ (fun i σ H' _ p => ?_) ?_ ?_⟩
  · obtain ⟨pl, lv, x5, x9, x10, x11, x12, x13, qs, rs, rfl, e, p2⟩ := p
    exact Evl.ex_l e hO
  · rintro i y σ H4 hi ⟨pl, lv, x5, x9, x10, x11, x12, x13, qs, rs, rfl, e4, hR4, hq4, hl4, hpl, eq4⟩
    obtain ⟨n, hn, rfl⟩ := map_int_get hi
    obtain ⟨n0, n1⟩ := ok.1 n (List.mem_of_getElem? hn)
    have dr : ns.drop i = n :: ns.drop (i + 1) := by
      obtain ⟨h1, h2⟩ := List.getElem?_eq_some_iff.mp hn
      rw [List.drop_eq_getElem_cons h1, h2]
    have hi2 : i < 8 := by
      obtain ⟨h1, _⟩ := List.getElem?_eq_some_iff.mp hn
      omega
    rw [dr, rows_go] at eq4
    have hSl4 := Evl.ex_l e4 hSl
    have hR4' := Evl.ex_t e4 hR
    obtain ⟨t, ht, hT⟩ := stop_val (hP.ex e4) n0 n1
    have gs := gst _ (stAt_mem n0 n1)
    have g1 := gs.2.2.1
    walk_at "go"
    refine ⟨r, ring, len, pl, (stAt sts n).1, rfl, hR4', ?_⟩
    rw [far_is hl0 hpl gs.1]
    walk_at "go"
    generalize hcm : lv + apartOf ring len pl (stAt sts n).1 = cm
    refine iteB (fun c => ?_) (fun c => ?_)
    · have c2 := odt c
      have no : goOn ring len pl lv (stAt sts n) = none := by
        unfold goOn
        rw [hcm, if_pos]
        revert c2
        split <;> intro c2 <;> omega
      rw [no] at eq4
      have eq5 : rowsOf ring len sts home start ns = none := eq4
      rw [eq5] at q
      walk_at "go"
      intro p hp
      exact q (.ref p) _ (e4.trans (Evl.Ex.new hp)) ⟨.inl rfl, p, rfl, upd_same⟩
    · have c2 := odf c
      have yes : goOn ring len pl lv (stAt sts n) = some (cm, maxOf cm (stAt sts n).2.1, maxOf cm (stAt sts n).2.1 + (stAt sts n).2.2.2) := by
        unfold goOn
        rw [hcm, if_neg]
        revert c2
        split <;> intro c2 <;> omega
      rw [yes] at eq4
      have mx : (if (stAt sts n).2.1 > cm then (stAt sts n).2.1 else cm) = maxOf cm (stAt sts n).2.1 := rfl
      generalize hx : ((cm, maxOf cm (stAt sts n).2.1, maxOf cm (stAt sts n).2.1 + (stAt sts n).2.2.2) : Row) = x at eq4
      have eq5 : rowsOf ring len sts home start ns = ((rowsOf ring len sts (stAt sts n).1 x.2.2 (ns.drop (i + 1))).map fun z => x :: z).map fun z => rs ++ z := eq4
      walk_at "go"
      refine ⟨Or.inl ⟨rfl, _, SqL.of hR4⟩, ?_⟩
      walk_at "go"
      intro p hp
      have e5 := e4.trans (Evl.Ex.new (o := .tup (rowV x)) hp)
      have nRp : R ≠ p := ne_of_none hR4 hp
      have hR5 : (upd H4 p (.tup (rowV x))) R = some (.lst (qs.map V.ref)) := by rw [upd_ne nRp]; exact hR4
      have hq5 : RowsR (upd H4 p (.tup (rowV x))) qs rs := hq4.ex (Evl.Ex.new hp)
      have hp5 : (upd H4 p (.tup (rowV x))) p = some (.tup (rowV x)) := upd_same
      have hv : (rowV x) = [.int (lv + apartOf ring len pl (stAt sts n).1), .int (if (stAt sts n).2.1 > lv + apartOf ring len pl (stAt sts n).1 then (stAt sts n).2.1 else lv + apartOf ring len pl (stAt sts n).1), .int ((if (stAt sts n).2.1 > lv + apartOf ring len pl (stAt sts n).1 then (stAt sts n).2.1 else lv + apartOf ring len pl (stAt sts n).1) + (stAt sts n).2.2.2)] := by subst hcm; rw [← hx]; rfl
      rw [hv] at hR5 hq5 hp5 e5
      refine ⟨R, _, _, rfl, rfl, hR5, Evl.sz_lt (by rw [List.length_map, hq4.len]; omega), ?_⟩
      refine ⟨_, _, _, _, _, _, _, _, qs ++ [p], rs ++ [x], rfl, Evl.Ex.mut e5 fR, (by rw [upd_same, List.map_append]; rfl), RowsR.at_lst hR5 (RowsR.snoc (by rw [hv]; exact hp5) hq5), (by rw [List.length_append, hl4]; rfl), gs.1, ?_⟩
      rw [eq5, map_map_app rfl, ← hx]
      subst hcm
      rfl
  · rintro σ H4 ⟨pl, lv, x5, x9, x10, x11, x12, x13, qs, rs, rfl, e4, hR4, hq4, hl4, hpl, eq4⟩
    rw [List.length_map, List.drop_length] at eq4
    have eq5 : rowsOf ring len sts home start ns = some rs := by
      rw [eq4]
      show some (rs ++ []) = some rs
      rw [List.append_nil]
    rw [eq5] at q
    walk_at "go"
    exact q (.ref R) H4 e4 ⟨R, qs, rfl, fR, hR4, hq4⟩
/-! #### check_day -/
def sp_check_day (K : PySem.W.Frag) : Sp := fun vs H Q E => ∃ (r l : Addr) (w : Str) (len home start : Int) (ps : List Addr) (sts : List Stp) (_u : Unit), vs = [.ref r, .int home, .int start, .ref l] ∧ SqT K H r [.str w, .int len] ∧ SqL K H l (ps.map V.ref) ∧ StopsR K H ps sts ∧
  (dayFlt w len home start sts = none → ∀ H', Ex H H' → Q .non H') ∧ (∀ f, dayFlt w len home start sts = some f → ∀ H', Ex H H' → E (.ref (fltC K f)) none H')
set_option maxHeartbeats 4000000 in
theorem ok_check_day (T : Txt K mg D) : FnOk P w K mg base (L2.CX P w) 3 (He.ga K "check_day") (D "check_day") ["road", "home", "start", "stops"] (sp_check_day K) := by
  refine T.F_check_day.ok sc_check_day (fun vs H Q E h => ?_) (fun cdv A outer s H vs Q E hr h => ?_)
  · obtain ⟨_, _, _, _, _, _, _, _, _, rfl, _⟩ := h
    rfl
  obtain ⟨r, l, w', len, home, start, ps, sts, _, rfl, hR, hL, hP, q1, q2⟩ := h
  refine ⟨_, (pss_cons (ps_if (pt_not (pt_val (pe_call (ok_is_road T) (hr.mono (by decide)) rfl T.m_is_road T.F_is_road.kp T.b_is_road .nil pass0 (pa_cons (pv 0) pa_nil)))) (pss_one (ps_raise rfl (takes_of rfl rfl rfl rfl) (pmk_own PySem.F.excBase_ValueError T.x_BadRoad T.m_BadRoad T.kp_BadRoad (raises_own T.sb_BadRoad T.ty_BadRoad) (by exact rfl)))) pss_nil)
    (pss_cons (ps_if (pt_not (pt_val (pe_call (ok_has_place T) (hr.mono (by decide)) rfl T.m_has_place T.F_has_place.kp T.b_has_place .nil pass0 (pa_cons (pv 0) (pa_cons (pv 1) pa_nil))))) (pss_one (ps_raise rfl (takes_of rfl rfl rfl rfl) (pmk_own PySem.F.excBase_ValueError T.x_OffRoad T.m_OffRoad T.kp_OffRoad (raises_own T.sb_OffRoad T.ty_OffRoad) (by exact rfl)))) pss_nil)
    (pss_cons (ps_if (pt_not (pt_val (pe_call (ok_is_time T) (hr.mono (by decide)) rfl T.m_is_time T.F_is_time.kp T.b_is_time .nil pass0 (pa_cons (pv 2) pa_nil)))) (pss_one (ps_raise rfl (takes_of rfl rfl rfl rfl) (pmk_own PySem.F.excBase_ValueError T.x_BadTime T.m_BadTime T.kp_BadTime (raises_own T.sb_BadTime T.ty_BadTime) (by exact rfl)))) pss_nil)
    (pss_cons (ps_if (pt_cmpR op_gt (pe_callB call_len_seq rfl T.m_len PySem.boot_len (pa_cons (pv 3) pa_nil)) (pe_globE rfl T.c_MOST_STOPS) (nomark _)) (pss_one (ps_raise rfl (takes_of rfl rfl rfl rfl) (pmk_own PySem.F.excBase_ValueError T.x_TooMany T.m_TooMany T.kp_TooMany (raises_own T.sb_TooMany T.ty_TooMany) (by exact rfl)))) pss_nil)
    (pss_one (ps_for (passes_of rfl) rfl (pi_list (pv 3)) (pg_name (i := 4) sc_check_day.nd rfl (Or.inl rfl))
      (pss_one (ps_expr (pe_call (ok_check_stop T) hr rfl T.m_check_stop T.F_check_stop.kp T.b_check_stop .nil (passes_call (E := E) (takes_of rfl rfl rfl rfl) (fun _ _ _ _ h => h)) (pa_cons (pv 0) (pa_cons (pv 4) pa_nil))))))))))), ?_⟩
  have fault : ∀ f, dayFlt w' len home start sts = some f → ∀ H', Ex H H' → E (.ref (fltC K f)) none H' := q2
  walk_at "go"
  refine ⟨r, w', len, rfl, hR, fun H1 e1 => ?_⟩
  walk_at "go"
  refine iteB (fun c => ?_) (fun c => ?_)
  · refine fault .road ?_ H1 e1
    unfold dayFlt
    rw [if_pos]
    intro z
    rw [decide_eq_true z] at c
    exact absurd c (by decide)
  have c1 : isRoad w' len := by
    by_cases z : isRoad w' len
    · exact z
    · rw [decide_eq_false z] at c; exact absurd c (by decide)
  obtain ⟨hw, hl⟩ := isRoad_word c1
  have hR1 : SqT K H1 r (roadV (decide (w' = "ring")) len) := by
    have e : roadV (decide (w' = "ring")) len = [V.str w', V.int len] := by unfold roadV; rw [← hw]
    rw [e]
    exact Evl.ex_t e1 hR
  walk_at "go"
  refine ⟨r, _, len, home, rfl, hR1, ?_⟩
  walk_at "go"
  refine iteB (fun c => ?_) (fun c => ?_)
  · refine fault .off ?_ H1 e1
    unfold dayFlt
    rw [if_neg (fun z => z c1), if_pos]
    intro z
    rw [decide_eq_true (show 0 ≤ home ∧ home < placesOf (decide (w' = "ring")) len from z)] at c
    exact absurd c (by decide)
  have c2 : onRoad (decide (w' = "ring")) len home := by
    by_cases z : onRoad (decide (w' = "ring")) len home
    · exact z
    · rw [decide_eq_false (show ¬ (0 ≤ home ∧ home < placesOf (decide (w' = "ring")) len) from z)] at c; exact absurd c (by decide)
  walk_at "go"
  refine iteB (fun c => ?_) (fun c => ?_)
  · refine fault .time ?_ H1 e1
    unfold dayFlt
    rw [if_neg (fun z => z c1), if_neg (fun z => z c2), if_pos]
    intro z
    rw [decide_eq_true z] at c
    exact absurd c (by decide)
  have c3 : isTime start := by
    by_cases z : isTime start
    · exact z
    · rw [decide_eq_false z] at c; exact absurd c (by decide)
  walk_at "go"
  refine ⟨l, _, rfl, Or.inl (Evl.ex_l e1 hL), ?_⟩
  walk_at "go"
  have hlen : (ps.map V.ref).length = sts.length := by rw [List.length_map]; exact hP.len
  refine iteB (fun c => ?_) (fun c => ?_)
  · refine fault .many ?_ H1 e1
    have c' := of_decide_eq_true c
    unfold dayFlt
    rw [if_neg (fun z => z c1), if_neg (fun z => z c2), if_neg (fun z => z c3), if_pos (by omega)]
  have c4 : ¬ 7 < sts.length := by
    have c' := of_decide_eq_false c
    omega
  have rest : dayFlt w' len home start sts = stopsFlt (decide (w' = "ring")) len sts := by
    unfold dayFlt
    rw [if_neg (fun z => z c1), if_neg (fun z => z c2), if_neg (fun z => z c3), if_neg c4]
  rw [rest] at q1 fault
  walk_at "go"
  refine ⟨⟨_, Evl.ex_l e1 hL⟩, for_list (K := K) (a := l) (xs := ps.map V.ref) (fun i σ H' => (∃ x, σ = [some (.ref r), some (.int home), some (.int start), some (.ref l), x]) ∧ H' = H1 ∧ stopsFlt (decide (w' = "ring")) len sts = stopsFlt (decide (w' = "ring")) len (sts.drop i)) ⟨⟨_, rfl⟩, rfl, rfl⟩ (fun i σ H' _ p => by rw [p.2.1]; exact Evl.ex_l e1 hL) ?_ ?_⟩
  · rintro i y σ H' hi ⟨⟨x, rfl⟩, rfl, p⟩
    obtain ⟨a, ha, rfl⟩ := map_ref_get hi
    obtain ⟨st, hst, hS⟩ := (hP.ex e1).get ha
    have dr : sts.drop i = st :: sts.drop (i + 1) := by
      obtain ⟨h1, h2⟩ := List.getElem?_eq_some_iff.mp hst
      rw [List.drop_eq_getElem_cons h1, h2]
    walk_at "go"
    refine ⟨r, a, _, len, st, rfl, hR1, hS, fun z => ?_, fun f z => ?_⟩
    · refine ⟨⟨_, rfl⟩, rfl, ?_⟩
      rw [p, dr]
      show (match stopFlt (decide (w' = "ring")) len st with | some f => some f | none => stopsFlt (decide (w' = "ring")) len (sts.drop (i + 1))) = _
      rw [z]
    · refine fault f ?_ _ e1
      rw [p, dr]
      show (match stopFlt (decide (w' = "ring")) len st with | some f => some f | none => stopsFlt (decide (w' = "ring")) len (sts.drop (i + 1))) = _
      rw [z]
  · rintro σ H' ⟨_, rfl, p⟩
    refine q1 ?_ _ e1
    rw [p, hlen, List.drop_length]
    rfl
/-! #### visit -/
def sp_visit (K : PySem.W.Frag) : Sp := fun vs H Q _ => ∃ (d r l : Addr) (ring : Bool) (len home start pl lv n : Int) (ps : List Addr) (sts : List Stp) (_u _v : Unit), vs = [.ref d, .int pl, .int lv, .int n] ∧ DayAt K H d r l (wordOf ring) len home start ps sts ∧ 0 < len ∧ 0 ≤ n ∧ n < sts.length ∧
  (goOn ring len pl lv (stAt sts n) = none → Q .non H) ∧
  (∀ x, goOn ring len pl lv (stAt sts n) = some x → ∀ p, H p = none → Q (.ref p) (upd H p (.tup (rowV x))))
set_option maxHeartbeats 4000000 in
theorem ok_visit (T : Txt K mg D) : FnOk P w K mg base CX0 3 (He.ga K "visit") (D "visit") ["day", "place", "leaves", "number"] (sp_visit K) := by
  refine T.F_visit.ok sc_visit (fun vs H Q E h => ?_) (fun cdv A outer s H vs Q E hr h => ?_)
  · obtain ⟨_, _, _, _, _, _, _, _, _, _, _, _, _, _, rfl, _⟩ := h
    rfl
  obtain ⟨d, r, l, ring, len, home, start, pl, lv, n, ps, sts, _, _, rfl, hD, hl0, n0, n1, q1, q2⟩ := h
  refine ⟨_, PSs.nox (pss_cons (ps_asg (pe_ix ix_list (pe_fld (pv 0) rfl) (pv 3) (fun _ _ => rfl)) (pg_tup rfl (pgs_cons (pg_name (i := 4) sc_visit.nd rfl (Or.inl rfl)) (pgs_cons (pg_name (i := 5) sc_visit.nd rfl (Or.inl rfl)) (pgs_cons (pg_name (i := 6) sc_visit.nd rfl (Or.inl rfl)) (pgs_cons (pg_name (i := 7) sc_visit.nd rfl (Or.inl rfl)) pgs_nil))))))
    (pss_cons (ps_set (i := 8) sc_visit.nd rfl (Or.inl rfl) (pe_op op_add (pv 2) (pe_call (ok_apart T) hr rfl T.m_apart T.F_apart.kp T.b_apart .nil pass0 (pa_cons (pe_fld (pv 0) rfl) (pa_cons (pv 1) (pa_cons (pv 4) pa_nil))))))
    (pss_cons (ps_if (pt_cmpR op_gt (pv 8) (pv 6) (nomark _)) (pss_one (ps_ret pe_non)) pss_nil)
    (pss_cons (ps_set (i := 9) sc_visit.nd rfl (Or.inl rfl) (pe_callB (call_max2 rfl) rfl T.m_max (by decide +kernel) (pa_cons (pv 8) (pa_cons (pv 5) pa_nil))))
    (pss_one (ps_ret (pe_tup (pa_cons (pv 8) (pa_cons (pv 9) (pa_cons (pe_op op_add (pv 9) (pv 7)) pa_nil)))))))))), ?_⟩
  obtain ⟨⟨dx, m1⟩, m2, m3, m4⟩ := id hD
  obtain ⟨t, ht, hT⟩ := stop_val m4 n0 n1
  walk_at "go"
  refine ⟨d, _, dx, _, _, rfl, m1, T.cl_Day, T.na_Day_stops, rfl, ?_⟩
  walk_at "go"
  refine ⟨d, _, dx, _, _, rfl, m1, T.cl_Day, T.na_Day_road, rfl, ?_⟩
  walk_at "go"
  refine ⟨r, ring, len, pl, (stAt sts n).1, rfl, m2, hl0, ?_⟩
  walk_at "go"
  refine iteB (fun c => ?_) (fun c => ?_)
  · exact q1 (if_pos (of_decide_eq_true c))
  · walk_at "go"
    intro p hp
    exact q2 _ (if_neg (of_decide_eq_false c)) p hp
/-! #### road_of -/
def sp_road_of (K : PySem.W.Frag) : Sp := fun vs H Q _ => ∃ (ring : Bool) (len : Int) (_u : Unit), vs = [.str (S (joinL [32] [tl (wordOf ring), num len]))] ∧ 0 ≤ len ∧ len < 1000000000000000 ∧
  ∀ p H', Ex H H' → H p = none → H' p = some (.tup (roadV ring len)) → Q (.ref p) H'
set_option maxHeartbeats 4000000 in
theorem ok_road_of (T : Txt K mg D) : FnOk P w K mg base (L2.CX P w) 3 (He.ga K "road_of") (D "road_of") ["row"] (sp_road_of K) := by
  refine T.F_road_of.ok sc_road_of (fun vs H Q E h => ?_) (fun cdv A outer s H vs Q E hr h => ?_)
  · obtain ⟨_, _, _, rfl, _⟩ := h
    rfl
  obtain ⟨ring, len, _, rfl, l0, l1, q⟩ := h
  refine ⟨_, (pss_cons (ps_set (i := 1) sc_road_of.nd rfl (Or.inl rfl) (pe_ix ix_list (pe_m1 PySem.F.slot_str_split PySem.F.type_str_split mt_split (pv 0) pe_str) pe_int (fun _ _ => rfl)))
    (pss_cons (ps_if (pt_cmpR op_notIn_seq (pv 1) (pe_tup (pa_cons (pe_globE rfl T.c_LINE) (pa_cons (pe_globE rfl T.c_RING) pa_nil))) rfl) (pss_one (ps_raise rfl (takes_of rfl rfl rfl rfl) (pmk_own PySem.F.excBase_ValueError T.x_NoDay T.m_NoDay T.kp_NoDay (raises_own T.sb_NoDay T.ty_NoDay) (by exact rfl)))) pss_nil)
    (pss_one (ps_ret (pe_tup (pa_cons (pv 1) (pa_cons (pe_ix ix_list (pe_call (ok_numbers_of T) hr rfl T.m_numbers_of T.F_numbers_of.kp T.b_numbers_of .nil (passes_call (E := E) (takes_of rfl rfl rfl rfl) (fun _ _ _ _ h => h)) (pa_cons (pv 0) (pa_cons (pe_tup (pa_cons (pv 1) pa_nil)) pa_nil))) pe_int (fun _ _ => rfl)) pa_nil))))))), ?_⟩
  walk_at "go"
  refine ⟨⟨_, rfl⟩, ?_⟩
  walk_at "go"
  have ok : RowOk [tl (wordOf ring)] [len] [tl (wordOf ring), num len] := .one _ _ (name_word ring) ⟨l0, l1⟩
  have hsz := ok.size
  have fr := ok.free
  refine ⟨Evl.sz_of (by rw [S_len]; omega), fun p hp => ?_⟩
  rw [sp_S, split_rows (by decide) (by simp) (fun w hw => (fr w hw).1)]
  have e1 := Evl.Ex.new (o := .lst (([tl (wordOf ring), num len].map S).map V.str)) hp
  have h1 : (upd H p (.lst (([tl (wordOf ring), num len].map S).map V.str))) p = some (.lst [.str (wordOf ring), .str (S (num len))]) := by rw [upd_same]; rfl
  generalize upd H p (.lst (([tl (wordOf ring), num len].map S).map V.str)) = H1 at e1 h1
  have a0 : atI [V.str (wordOf ring), V.str (S (num len))] 0 = some (.str (wordOf ring)) := rfl
  refine ⟨p, _, _, _, rfl, rfl, SqL.of h1, a0, ?_⟩
  walk_at "go"
  intro p2 hp2
  have e2 := Evl.Ex.new (o := .tup [.str "line", .str "ring"]) hp2
  have h2 : (upd H1 p2 (.tup [.str "line", .str "ring"])) p2 = some (.tup [.str "line", .str "ring"]) := upd_same
  generalize upd H1 p2 (.tup [.str "line", .str "ring"]) = H2 at e2 h2
  walk_at "go"
  have iw : wordOf ring = "line" ∨ wordOf ring = "ring" := by cases ring; exact .inl rfl; exact .inr rfl
  refine iteFb (by rw [in_roads, decT iw]; rfl) ?_
  walk_at "go"
  intro p3 hp3
  have e3 := Evl.Ex.new (o := .tup [.str (wordOf ring)]) hp3
  have h3 : (upd H2 p3 (.tup [.str (wordOf ring)])) p3 = some (.tup [.str (wordOf ring)]) := upd_same
  generalize upd H2 p3 (.tup [.str (wordOf ring)]) = H3 at e3 h3
  walk_at "go"
  refine ⟨p3, [tl (wordOf ring)], [len], _, rfl, SqT.of h3, ok, fun p4 H4 e4 f4 h4 => ?_⟩
  have a1 : atI [V.int len] 0 = some (.int len) := rfl
  refine ⟨p4, _, _, _, rfl, rfl, SqL.of h4, a1, ?_⟩
  walk_at "go"
  intro p5 hp5
  have e04 := ((e1.trans e2).trans e3).trans e4
  exact q p5 _ (e04.trans (Evl.Ex.new hp5)) (none_of_ex e04 hp5) upd_same
/-! #### _law_stop_by -/
def sp_law_stop_by (K : PySem.W.Frag) : Sp := fun vs H Q _ => ∃ (r a : Addr) (ring : Bool) (len start k : Int) (ns : List Int), vs = [.ref r, .int start, .ref a, .int k] ∧ SqT K H r (roadV ring len) ∧ 1 ≤ len ∧ len ≤ 1000000000 ∧ 0 ≤ start ∧ start ≤ 1000000000000 ∧ SqL K H a (ns.map V.int) ∧ ns.length ≤ 63 ∧
  ∀ s p H', goodStop ring len s → Ex H H' → H p = none → H' p = some (.tup (stopV s)) → Q (.ref p) H'
set_option maxHeartbeats 4000000 in
theorem ok_law_stop_by (T : Txt K mg D) : FnOk P w K mg base CX0 3 (He.ga K "_law_stop_by") (D "_law_stop_by") ["_law_road", "_law_start", "_law_script", "_law_k"] (sp_law_stop_by K) := by
  refine T.F_law_stop_by.ok sc_law_stop_by (fun vs H Q E h => ?_) (fun cdv A outer s H vs Q E hr h => ?_)
  · obtain ⟨_, _, _, _, _, _, _, rfl, _⟩ := h
    rfl
  obtain ⟨r, a, ring, len, start, k, ns, rfl, hR, l1, l2, s0, s1, hS, hn, q⟩ := h
  refine ⟨_, PSs.nox (pss_cons (ps_set (i := 4) sc_law_stop_by.nd rfl (Or.inl rfl) (pe_call (ok_law_place_by T) hr rfl T.m_law_place_by T.F_law_place_by.kp T.b_law_place_by .nil pass0 (pa_cons (pv 0) (pa_cons (pe_call (ok_law_cell_at T) (hr.mono (by decide)) rfl T.m_law_cell_at T.F_law_cell_at.kp T.b_law_cell_at .nil pass0 (pa_cons (pv 2) (pa_cons (pv 3) pa_nil))) pa_nil))))
    (pss_cons (ps_set (i := 5) sc_law_stop_by.nd rfl (Or.inl rfl) (pe_call (ok_law_cell_at T) (hr.mono (by decide)) rfl T.m_law_cell_at T.F_law_cell_at.kp T.b_law_cell_at .nil pass0 (pa_cons (pv 2) (pa_cons (pe_op op_add (pv 3) pe_int) pa_nil))))
    (pss_cons (ps_set (i := 6) sc_law_stop_by.nd rfl (Or.inl rfl) (pe_op op_add (pv 1) (pe_op op_mod (pe_op op_fdiv (pv 5) pe_int) (pe_op op_add (pe_op op_mul pe_int (pe_ix ix_tup (pv 0) pe_int (fun _ _ => rfl))) pe_int))))
    (Evl.pss_cut (ps_if (pt_cmpR op_eq (pe_op op_mod (pv 5) pe_int) pe_int (nomark _)) (pss_one (ps_set (i := 6) sc_law_stop_by.nd rfl (Or.inl rfl) pe_int)) pss_nil)
    (Evl.pss_cut (ps_if (pt_cmpR op_eq (pe_op op_mod (pv 5) pe_int) pe_int (nomark _)) (pss_one (ps_set (i := 6) sc_law_stop_by.nd rfl (Or.inl rfl) (pe_callB (call_max2 rfl) rfl T.m_max (by decide +kernel) (pa_cons pe_int (pa_cons (pe_op op_sub (pv 1) (pe_op op_mod (pe_op op_fdiv (pv 5) pe_int) (pe_op op_add (pe_ix ix_tup (pv 0) pe_int (fun _ _ => rfl)) pe_int))) pa_nil))))) pss_nil)
    (Evl.pss_cut (ps_if (pt_cmpR op_eq (pe_op op_mod (pv 5) pe_int) pe_int (nomark _)) (pss_one (ps_set (i := 6) sc_law_stop_by.nd rfl (Or.inl rfl) (pe_op op_add (pv 1) (pe_call (ok_law_wide T) (hr.mono (by decide)) rfl T.m_law_wide T.F_law_wide.kp T.b_law_wide .nil pass0 (pa_cons (pe_op op_fdiv (pv 5) pe_int) (pa_cons (pe_ix ix_list (pe_lst (pa_cons (pe_op op_pow pe_int pe_int) (pa_cons (pe_op op_pow pe_int pe_int) pa_nil))) (pe_op op_mod (pe_op op_fdiv (pv 5) pe_int) pe_int) (fun _ _ => rfl)) pa_nil)))))) pss_nil)
    (pss_cons (ps_set (i := 6) sc_law_stop_by.nd rfl (Or.inl rfl) (pe_callB (call_min2 rfl) rfl T.m_min (by decide +kernel) (pa_cons (pv 6) (pa_cons (pe_op op_pow pe_int pe_int) pa_nil))))
    (pss_cons (ps_set (i := 5) sc_law_stop_by.nd rfl (Or.inl rfl) (pe_call (ok_law_cell_at T) (hr.mono (by decide)) rfl T.m_law_cell_at T.F_law_cell_at.kp T.b_law_cell_at .nil pass0 (pa_cons (pv 2) (pa_cons (pe_op op_add (pv 3) pe_int) pa_nil))))
    (pss_cons (ps_set (i := 7) sc_law_stop_by.nd rfl (Or.inl rfl) (pe_op op_add (pe_op op_add (pe_callB (call_max2 rfl) rfl T.m_max (by decide +kernel) (pa_cons (pv 6) (pa_cons (pv 1) pa_nil))) (pe_op op_mul (pe_ix ix_list (pe_lst (pa_cons pe_int (pa_cons pe_int (pa_cons pe_int (pa_cons pe_int pa_nil))))) (pe_op op_mod (pv 5) pe_int) (fun _ _ => rfl)) (pe_ix ix_tup (pv 0) pe_int (fun _ _ => rfl)))) (pe_op op_mod (pe_op op_fdiv (pv 5) pe_int) (pe_op op_add (pe_ix ix_tup (pv 0) pe_int (fun _ _ => rfl)) pe_int))))
    (Evl.pss_cut (ps_if (pt_cmpR op_eq (pe_op op_mod (pv 5) pe_int) pe_int (nomark _)) (pss_one (ps_set (i := 7) sc_law_stop_by.nd rfl (Or.inl rfl) (pv 6))) pss_nil)
    (Evl.pss_cut (ps_if (pt_cmpR op_eq (pe_op op_mod (pv 5) pe_int) pe_int (nomark _)) (pss_one (ps_set (i := 7) sc_law_stop_by.nd rfl (Or.inl rfl) (pe_ix ix_list (pe_lst (pa_cons (pe_op op_pow pe_int pe_int) (pa_cons (pe_op op_add (pe_callB (call_max2 rfl) rfl T.m_max (by decide +kernel) (pa_cons (pv 6) (pa_cons (pv 1) pa_nil))) (pe_call (ok_law_wide T) (hr.mono (by decide)) rfl T.m_law_wide T.F_law_wide.kp T.b_law_wide .nil pass0 (pa_cons (pe_op op_fdiv (pv 5) pe_int) (pa_cons (pe_op op_pow pe_int pe_int) pa_nil)))) pa_nil))) (pe_op op_mod (pe_op op_fdiv (pv 5) pe_int) pe_int) (fun _ _ => rfl)))) pss_nil)
    (pss_cons (ps_set (i := 7) sc_law_stop_by.nd rfl (Or.inl rfl) (pe_callB (call_min2 rfl) rfl T.m_min (by decide +kernel) (pa_cons (pv 7) (pa_cons (pe_op op_pow pe_int pe_int) pa_nil))))
    (pss_cons (ps_set (i := 5) sc_law_stop_by.nd rfl (Or.inl rfl) (pe_call (ok_law_cell_at T) (hr.mono (by decide)) rfl T.m_law_cell_at T.F_law_cell_at.kp T.b_law_cell_at .nil pass0 (pa_cons (pv 2) (pa_cons (pe_op op_add (pv 3) pe_int) pa_nil))))
    (pss_cons (ps_set (i := 8) sc_law_stop_by.nd rfl (Or.inl rfl) (pe_op op_mod (pe_op op_fdiv (pv 5) pe_int) (pe_op op_add (pe_op op_fdiv (pe_ix ix_tup (pv 0) pe_int (fun _ _ => rfl)) pe_int) pe_int)))
    (Evl.pss_cut (ps_if (pt_cmpR op_eq (pe_op op_mod (pv 5) pe_int) pe_int (nomark _)) (pss_one (ps_set (i := 8) sc_law_stop_by.nd rfl (Or.inl rfl) pe_int)) pss_nil)
    (Evl.pss_cut (ps_if (pt_cmpR op_eq (pe_op op_mod (pv 5) pe_int) pe_int (nomark _)) (pss_one (ps_set (i := 8) sc_law_stop_by.nd rfl (Or.inl rfl) (pe_call (ok_law_wide T) (hr.mono (by decide)) rfl T.m_law_wide T.F_law_wide.kp T.b_law_wide .nil pass0 (pa_cons (pe_op op_fdiv (pv 5) pe_int) (pa_cons (pe_op op_add (pe_op op_pow pe_int pe_int) pe_int) pa_nil))))) pss_nil)
    (pss_one (ps_ret (pe_tup (pa_cons (pv 4) (pa_cons (pv 6) (pa_cons (pv 7) (pa_cons (pv 8) pa_nil))))))))))))))))))))))), ?_⟩
  have h12 : (10 : Int) ^ (12 : Int).toNat = 1000000000000 := by decide +kernel
  have h9 : (10 : Int) ^ (9 : Int).toNat = 1000000000 := by decide +kernel
  walk_at "go"
  refine ⟨a, ns, k, rfl, hS, hn, fun c0 => ?_⟩
  walk_at "go"
  refine ⟨r, ring, len, c0, rfl, hR, l1, fun pl H1 p0 p1 e1 => ?_⟩
  walk_at "go"
  refine ⟨a, ns, k + 1, rfl, Evl.ex_l e1 hS, hn, fun c1 => ?_⟩
  have hR1 : SqT K H1 r (roadV ring len) := Evl.ex_t e1 hR
  have hS1 : SqL K H1 a (ns.map V.int) := Evl.ex_l e1 hS
  walk_at "go"
  have m1 := Int.emod_nonneg (c1 / 4) (show 3 * len + 2 ≠ 0 by omega)
  have m2 := Int.emod_nonneg (c1 / 4) (show len + 1 ≠ 0 by omega)
  refine ⟨fun σ' H' => ∃ o, 0 ≤ o ∧ σ' = [some (V.ref r), some (V.int start), some (V.ref a), some (V.int k), some (V.int pl), some (V.int c1), some (V.int o), none, none] ∧ H' = H1, ?_, ?_⟩
  · walk_at "go"
    refine iteB (fun b => ?_) (fun b => ?_)
    · exact ⟨0, by decide, rfl, rfl⟩
    · exact ⟨_, by omega, rfl, rfl⟩
  rintro σ' H2 ⟨o, o0, rfl, rfl⟩
  refine ⟨fun σ' H' => ∃ o, 0 ≤ o ∧ σ' = [some (V.ref r), some (V.int start), some (V.ref a), some (V.int k), some (V.int pl), some (V.int c1), some (V.int o), none, none] ∧ H' = H2, ?_, ?_⟩
  · walk_at "go"
    refine iteB (fun b => ?_) (fun b => ?_)
    · walk_at "go"
      refine ⟨_, ?_, rfl, rfl⟩
      split <;> omega
    · exact ⟨o, o0, rfl, rfl⟩
  rintro σ' H3 ⟨o, o0, rfl, rfl⟩
  refine ⟨fun σ' H' => ∃ o, 0 ≤ o ∧ σ' = [some (V.ref r), some (V.int start), some (V.ref a), some (V.int k), some (V.int pl), some (V.int c1), some (V.int o), none, none] ∧ Ex H H', ?_, ?_⟩
  · walk_at "go"
    refine iteB (fun b => ?_) (fun b => ?_)
    · walk_at "go"
      intro p hp
      walk_at "go"
      obtain ⟨v, hv, hv2⟩ := at2 (a := 10 ^ (9 : Int).toNat) (b := 10 ^ (12 : Int).toNat) (i := c1 / 16 % 2) (by omega) (by omega)
      refine ⟨p, _, _, _, rfl, rfl, SqL.of upd_same, hv, ?_⟩
      walk_at "go"
      intro z z0 z1
      walk_at "go"
      exact ⟨_, by omega, rfl, e1.trans (Evl.Ex.new hp)⟩
    · exact ⟨o, o0, rfl, e1⟩
  rintro σ' H4 ⟨o, o0, rfl, e4⟩
  have hR4 : SqT K H4 r (roadV ring len) := Evl.ex_t e4 hR
  walk_at "go"
  have ob : ∃ o', (if 10 ^ (12 : Int).toNat < o then 10 ^ (12 : Int).toNat else o) = o' ∧ 0 ≤ o' ∧ o' ≤ 1000000000000 := ⟨_, rfl, by split <;> omega, by split <;> omega⟩
  obtain ⟨o', oe, o0', o1'⟩ := ob
  rw [oe]
  refine ⟨a, ns, k + 2, rfl, Evl.ex_l e4 hS, hn, fun c2 => ?_⟩
  walk_at "go"
  intro p hp
  walk_at "go"
  obtain ⟨v, hv, hv2⟩ := at4 (a := 0) (b := 3) (c := 9) (d := 20) (i := c2 % 4) (by omega) (by omega)
  refine ⟨p, _, _, _, rfl, rfl, SqL.of upd_same, hv, ?_⟩
  have e5 : Ex H (upd H4 p (.lst [V.int 0, V.int 3, V.int 9, V.int 20])) := e4.trans (Evl.Ex.new hp)
  have hR5 : SqT K (upd H4 p (.lst [V.int 0, V.int 3, V.int 9, V.int 20])) r (roadV ring len) := Evl.ex_t e5 hR
  walk_at "go"
  refine And.intro (show CMul v len from Or.inl ⟨by omega, by omega⟩) ?_
  walk_at "go"
  have hv0 : 0 ≤ v * len := by rcases hv2 with rfl | rfl | rfl | rfl <;> omega
  have m3 := Int.emod_nonneg (c2 / 4) (show len + 2 ≠ 0 by omega)
  refine ⟨fun σ' H' => ∃ c, o' ≤ c ∧ σ' = [some (V.ref r), some (V.int start), some (V.ref a), some (V.int k), some (V.int pl), some (V.int c2), some (V.int o'), some (V.int c), none] ∧ Ex H H', ?_, ?_⟩
  · walk_at "go"
    refine iteB (fun b => ?_) (fun b => ?_)
    · walk_at "go"
      exact ⟨o', Int.le_refl _, rfl, e5⟩
    · refine ⟨_, ?_, rfl, e5⟩
      show o' ≤ (if start > o' then start else o') + v * len + c2 / 4 % (len + 2)
      split <;> omega
  rintro σ' H5 ⟨c, hc, rfl, e6⟩
  refine ⟨fun σ' H' => ∃ c, o' ≤ c ∧ σ' = [some (V.ref r), some (V.int start), some (V.ref a), some (V.int k), some (V.int pl), some (V.int c2), some (V.int o'), some (V.int c), none] ∧ Ex H H', ?_, ?_⟩
  · walk_at "go"
    refine iteB (fun b => ?_) (fun b => ?_)
    · walk_at "go"
      intro z z0 z1
      walk_at "go"
      intro p2 hp2
      walk_at "go"
      obtain ⟨y, hy, hy2⟩ := at2 (a := 10 ^ (12 : Int).toNat) (b := (if start > o' then start else o') + z) (i := c2 / 9 % 2) (by omega) (by omega)
      refine ⟨p2, _, _, _, rfl, rfl, SqL.of upd_same, hy, ?_⟩
      refine ⟨y, ?_, rfl, e6.trans (Evl.Ex.new hp2)⟩
      rcases hy2 with rfl | rfl
      · omega
      · split <;> omega
    · exact ⟨c, hc, rfl, e6⟩
  rintro σ' H6 ⟨c, hc, rfl, e7⟩
  walk_at "go"
  have cb : ∃ c', (if 10 ^ (12 : Int).toNat < c then 10 ^ (12 : Int).toNat else c) = c' ∧ o' ≤ c' ∧ c' ≤ 1000000000000 := ⟨_, rfl, by split <;> omega, by split <;> omega⟩
  obtain ⟨c', ce, c0', c1'⟩ := cb
  rw [ce]
  refine ⟨a, ns, k + 3, rfl, Evl.ex_l e7 hS, hn, fun c3 => ?_⟩
  have hR7 : SqT K H6 r (roadV ring len) := Evl.ex_t e7 hR
  walk_at "go"
  have m4 := Int.emod_nonneg (c3 / 3) (show len / 3 + 2 ≠ 0 by omega)
  have m5 := Int.emod_lt_of_pos (c3 / 3) (show 0 < len / 3 + 2 by omega)
  refine ⟨fun σ' H' => ∃ y, 0 ≤ y ∧ y ≤ 1000000000000 ∧ σ' = [some (V.ref r), some (V.int start), some (V.ref a), some (V.int k), some (V.int pl), some (V.int c3), some (V.int o'), some (V.int c'), some (V.int y)] ∧ H' = H6, ?_, ?_⟩
  · walk_at "go"
    refine iteB (fun b => ?_) (fun b => ?_)
    · exact ⟨0, by decide, by decide, rfl, rfl⟩
    · exact ⟨_, by omega, by omega, rfl, rfl⟩
  rintro σ' H7 ⟨y, y0, y1, rfl, rfl⟩
  refine ⟨fun σ' H' => ∃ y, 0 ≤ y ∧ y ≤ 1000000000000 ∧ σ' = [some (V.ref r), some (V.int start), some (V.ref a), some (V.int k), some (V.int pl), some (V.int c3), some (V.int o'), some (V.int c'), some (V.int y)] ∧ H' = H7, ?_, ?_⟩
  · walk_at "go"
    refine iteB (fun b => ?_) (fun b => ?_)
    · walk_at "go"
      intro z z0 z1
      exact ⟨z, z0, by rw [h12] at z1; omega, rfl, rfl⟩
    · exact ⟨y, y0, y1, rfl, rfl⟩
  rintro σ' H8 ⟨y, y0, y1, rfl, rfl⟩
  walk_at "go"
  intro q8 hq8
  exact q (pl, o', c', y) q8 _ ⟨⟨p0, p1⟩, o0', c0', c1', y0, y1⟩ (e7.trans (Evl.Ex.new hq8)) (Evl.fresh_back e7 hq8) upd_same
/-! #### Day.__init__ -/
def sp_Day___init (K : PySem.W.Frag) : Sp := fun vs H Q E => ∃ (p dx r l : Addr) (w : Str) (len home start : Int) (ps : List Addr) (sts : List Stp) (_u : Unit), vs = [.ref p, .ref r, .int home, .int start, .ref l] ∧ H p = some (.ins (He.ga K "Day") dx []) ∧ SqT K H r [.str w, .int len] ∧ SqL K H l (ps.map V.ref) ∧ StopsR K H ps sts ∧
  (dayFlt w len home start sts = none → ∀ l' H', (∀ b o, b ≠ p → H b = some o → H' b = some o) → H l' = none → H' p = some (.ins (He.ga K "Day") dx (dayFs r l' home start)) → H' l' = some (.lst (ps.map V.ref)) → Q .non H') ∧
  (∀ f, dayFlt w len home start sts = some f → ∀ H', Ex H H' → E (.ref (fltC K f)) none H')
set_option maxHeartbeats 4000000 in
theorem ok_Day___init (T : Txt K mg D) : FnOk P w K mg base (L2.CX P w) 4 (He.ma K (He.ga K "Day") "__init__") (D "Day.__init__") ["self", "road", "home", "start", "stops"] (sp_Day___init K) := by
  refine T.F_Day___init.ok sc_Day___init (fun vs H Q E h => ?_) (fun cdv A outer s H vs Q E hr h => ?_)
  · obtain ⟨_, _, _, _, _, _, _, _, _, _, _, rfl, _⟩ := h
    rfl
  obtain ⟨p, dx, r, l, w', len, home, start, ps, sts, _, rfl, hp, hR, hL, hP, q1, q2⟩ := h
  refine ⟨_, (pss_cons (ps_expr (pe_call (ok_check_day T) hr rfl T.m_check_day T.F_check_day.kp T.b_check_day .nil (passes_call (E := E) (takes_of rfl rfl rfl rfl) (fun _ _ _ _ h => h)) (pa_cons (pv 1) (pa_cons (pv 2) (pa_cons (pv 3) (pa_cons (pv 4) pa_nil))))))
    (pss_cons (ps_fld (pv 0) (pv 1) rfl)
    (pss_cons (ps_fld (pv 0) (pv 2) rfl)
    (pss_cons (ps_fld (pv 0) (pv 3) rfl)
    (pss_one (ps_fld (pv 0) (pe_callTy call_list_of rfl T.m_list (by decide +kernel) (pa_cons (pv 4) pa_nil)) rfl)))))), ?_⟩
  walk_at "go"
  refine ⟨r, l, w', len, home, start, ps, sts, (), rfl, hR, hL, hP, fun z H1 e1 => ?_, q2⟩
  walk_at "go"
  refine ⟨p, _, dx, _, rfl, e1 _ _ hp, T.cl_Day, T.na_Day_road, (by decide), ?_⟩
  walk_at "go"
  refine ⟨p, _, dx, _, rfl, upd_same, T.cl_Day, T.na_Day_home, (by show 1 < 1000; decide), ?_⟩
  walk_at "go"
  refine ⟨p, _, dx, _, rfl, upd_same, T.cl_Day, T.na_Day_start, (by show 2 < 1000; decide), ?_⟩
  walk_at "go"
  refine ⟨l, _, rfl, Or.inl (SqL.at_ins upd_same (SqL.at_ins upd_same (SqL.at_ins (e1 _ _ hp) (Evl.ex_l e1 hL)))), fun l' hl' => ?_⟩
  walk_at "go"
  have nep : p ≠ l' := fun e => by rw [e, upd_same] at hl'; cases hl'
  refine ⟨p, _, dx, _, rfl, (by rw [upd_ne nep]; exact upd_same), T.cl_Day, T.na_Day_stops, (by show 3 < 1000; decide), ?_⟩
  have fr : H l' = none := by
    have h1 : H1 l' = none := by
      have h2 := hl'
      rw [upd_ne (Ne.symm nep), upd_ne (Ne.symm nep), upd_ne (Ne.symm nep)] at h2
      exact h2
    exact Evl.fresh_back e1 h1
  refine q1 z l' _ (fun b o hb ho => ?_) fr upd_same ?_
  · have hbl : b ≠ l' := fun e => by rw [e, fr] at ho; cases ho
    rw [upd_ne hb, upd_ne hbl, upd_ne hb, upd_ne hb, upd_ne hb]
    exact e1 _ _ ho
  · rw [upd_ne (Ne.symm nep)]
    exact upd_same
/-! #### timetable -/
def sp_timetable (K : PySem.W.Frag) : Sp := fun vs H Q E => ∃ (d o r l : Addr) (ring : Bool) (len home start : Int) (ps : List Addr) (sts : List Stp) (ns : List Int), vs = [.ref d, .ref o] ∧ DayAt K H d r l (wordOf ring) len home start ps sts ∧ SqL K H o (ns.map V.int) ∧ ns.length ≤ 4000 ∧ 0 < len ∧
  (¬ ordOk ns sts.length → ∀ H', Ex H H' → E (.ref (He.ga K "BadOrder")) none H') ∧
  (ordOk ns sts.length → rowsOf ring len sts home start ns = none → ∀ H', Ex H H' → E (.ref (He.ga K "Missed")) none H') ∧
  (ordOk ns sts.length → ∀ rs, rowsOf ring len sts home start ns = some rs → ∀ l' qs H', Ex H H' → H l' = none → H' l' = some (.lst (qs.map V.ref)) → RowsR H' qs rs → Q (.ref l') H')
set_option maxHeartbeats 4000000 in
theorem ok_timetable (T : Txt K mg D) : FnOk P w K mg base (L2.CX P w) 4 (He.ga K "timetable") (D "timetable") ["day", "order"] (sp_timetable K) := by
  refine T.F_timetable.ok sc_timetable (fun vs H Q E h => ?_) (fun cdv A outer s H vs Q E hr h => ?_)
  · obtain ⟨_, _, _, _, _, _, _, _, _, _, _, rfl, _⟩ := h
    rfl
  obtain ⟨d, o, r, l, ring, len, home, start, ps, sts, ns, rfl, hD, hO, hz, hl0, q1, q2, q3⟩ := h
  refine ⟨_, (pss_cons (ps_expr (pe_call (ok_check_order T) (hr.mono (by decide)) rfl T.m_check_order T.F_check_order.kp T.b_check_order .nil (passes_call (E := E) (takes_of rfl rfl rfl rfl) (fun _ _ _ _ h => h)) (pa_cons (pv 0) (pa_cons (pv 1) pa_nil))))
    (pss_cons (ps_set (i := 2) sc_timetable.nd rfl (Or.inl rfl) (pe_lst pa_nil))
    (pss_cons (ps_set (i := 3) sc_timetable.nd rfl (Or.inl rfl) (pe_fld (pv 0) rfl))
    (pss_cons (ps_set (i := 4) sc_timetable.nd rfl (Or.inl rfl) (pe_fld (pv 0) rfl))
    (pss_cons (ps_for (passes_of rfl) rfl (pi_list (pv 1)) (pg_name (i := 5) sc_timetable.nd rfl (Or.inl rfl))
      (pss_cons (ps_set (i := 6) sc_timetable.nd rfl (Or.inl rfl) (pe_call (ok_visit T) hr rfl T.m_visit T.F_visit.kp T.b_visit .nil pass0 (pa_cons (pv 0) (pa_cons (pv 3) (pa_cons (pv 4) (pa_cons (pv 5) pa_nil))))))
      (pss_cons (ps_if (pt_cmpR op_isN1 (pv 6) pe_non (nomark _)) (pss_one (ps_raise rfl (takes_of rfl rfl rfl rfl) (pmk_own PySem.F.excBase_ValueError T.x_Missed T.m_Missed T.kp_Missed (raises_own T.sb_Missed T.ty_Missed) (by exact rfl)))) pss_nil)
      (pss_cons (ps_expr (pe_bm PySem.F.plainAttrs_list PySem.F.slot_list_append PySem.F.type_list_append mt_append (pv 2) (pa_cons (pv 6) pa_nil)))
      (pss_cons (ps_set (i := 3) sc_timetable.nd rfl (Or.inl rfl) (pe_ix ix_tup (pe_ix ix_list (pe_fld (pv 0) rfl) (pv 5) (fun _ _ => rfl)) pe_int (fun _ _ => rfl)))
      (pss_one (ps_set (i := 4) sc_timetable.nd rfl (Or.inl rfl) (pe_ix ix_tup (pv 6) pe_int (fun _ _ => rfl)))))))))
    (pss_one (ps_ret (pv 2)))))))), ?_⟩
  walk_at "go"
  refine ⟨d, o, r, l, _, len, home, start, ps, sts, ns, rfl, hD, hO, hz, fun ok => ?_, fun bad => q1 bad _ (Evl.Ex.refl _)⟩
  walk_at "go"
  intro R hR
  have e1 := Evl.Ex.new (o := .lst []) hR
  have hR1 : (upd H R (.lst [])) R = some (.lst []) := upd_same
  generalize upd H R (.lst []) = H1 at e1 hR1
  obtain ⟨⟨dx, k1⟩, k2, k3, k4⟩ := id (hD.ex e1)
  walk_at "go"
  refine ⟨d, _, dx, _, _, rfl, k1, T.cl_Day, T.na_Day_home, rfl, ?_⟩
  walk_at "go"
  refine ⟨d, _, dx, _, _, rfl, k1, T.cl_Day, T.na_Day_start, rfl, ?_⟩
  walk_at "go"
  refine ⟨⟨_, Evl.ex_l e1 hO⟩, for_list (K := K) (a := o) (xs := ns.map V.int) (fun i σ H' => ∃ (pl lv : Int) (x5 x6 : Option V) (qs : List Addr) (rs : List Row), σ = [some (.ref d), some (.ref o), some (.ref R), some (.int pl), some (.int lv), x5, x6] ∧ Ex H H' ∧ H' R = some (.lst (qs.map V.ref)) ∧ RowsR H' qs rs ∧ rs.length = i ∧ rowsOf ring len sts home start ns = (rowsOf ring len sts pl lv (ns.drop i)).map (fun z => rs ++ z)) ⟨home, start, _, _, [], [], rfl, e1, hR1, .nil, rfl, (by simp)⟩ (fun i σ H' _ p => ?_) ?_ ?_⟩
  · obtain ⟨pl, lv, x5, x6, qs, rs, rfl, e, p2⟩ := p
    exact Evl.ex_l e hO
  · rintro i y σ H2 hi ⟨pl, lv, x5, x6, qs, rs, rfl, e2, hR2, hq2, hl2, eq2⟩
    obtain ⟨n, hn, rfl⟩ := map_int_get hi
    have nmem : n ∈ ns := List.mem_of_getElem? hn
    obtain ⟨n0, n1⟩ := ok.1 n nmem
    have dr : ns.drop i = n :: ns.drop (i + 1) := by
      obtain ⟨h1, h2⟩ := List.getElem?_eq_some_iff.mp hn
      rw [List.drop_eq_getElem_cons h1, h2]
    have hi2 : i < 4000 := by
      obtain ⟨h1, _⟩ := List.getElem?_eq_some_iff.mp hn
      omega
    rw [dr, rows_go] at eq2
    obtain ⟨⟨dx2, m1⟩, m2, m3, m4⟩ := id (hD.ex e2)
    obtain ⟨t, ht, hT⟩ := stop_val m4 n0 n1
    walk_at "go"
    refine ⟨d, r, l, ring, len, home, start, pl, lv, n, ps, sts, (), (), rfl, hD.ex e2, hl0, n0, n1, fun no => ?_, fun x yes p hp => ?_⟩
    · rw [no] at eq2
      walk_at "go"
      exact iteTb rfl (q2 ok eq2 _ e2)
    · rw [yes] at eq2
      have eq3 : rowsOf ring len sts home start ns = ((rowsOf ring len sts (stAt sts n).1 x.2.2 (ns.drop (i + 1))).map fun z => x :: z).map fun z => rs ++ z := eq2
      have e3 := e2.trans (Evl.Ex.new (o := .tup (rowV x)) hp)
      have nRp : R ≠ p := ne_of_none hR2 hp
      have hR3 : (upd H2 p (.tup (rowV x))) R = some (.lst (qs.map V.ref)) := by rw [upd_ne nRp]; exact hR2
      have hq3 : RowsR (upd H2 p (.tup (rowV x))) qs rs := hq2.ex (Evl.Ex.new hp)
      have hp3 : (upd H2 p (.tup (rowV x))) p = some (.tup (rowV x)) := upd_same
      generalize upd H2 p (.tup (rowV x)) = H3 at e3 hR3 hq3 hp3
      walk_at "go"
      refine ⟨Or.inl ⟨rfl, _, SqL.of hR3⟩, ?_⟩
      walk_at "go"
      refine ⟨R, _, _, rfl, rfl, hR3, Evl.sz_lt (by rw [List.length_map, hq3.len]; omega), ?_⟩
      have hR4 : (upd H3 R (.lst (qs.map V.ref ++ [.ref p]))) R = some (.lst ((qs ++ [p]).map V.ref)) := by rw [upd_same, List.map_append]; rfl
      have hq4 : RowsR (upd H3 R (.lst (qs.map V.ref ++ [.ref p]))) (qs ++ [p]) (rs ++ [x]) := RowsR.at_lst hR3 (RowsR.snoc hp3 hq3)
      have e4 : Ex H (upd H3 R (.lst (qs.map V.ref ++ [.ref p]))) := Evl.Ex.mut e3 hR
      have hp4 : (upd H3 R (.lst (qs.map V.ref ++ [.ref p]))) p = some (.tup (rowV x)) := by rw [upd_ne (Ne.symm nRp)]; exact hp3
      generalize upd H3 R (.lst (qs.map V.ref ++ [.ref p])) = H4 at e4 hR4 hq4 hp4
      obtain ⟨⟨dx4, y1⟩, y2, y3, y4⟩ := id (hD.ex e4)
      obtain ⟨t4, ht4, hT4⟩ := stop_val y4 n0 n1
      have r2 : atI (rowV x) 2 = some (.int x.2.2) := rfl
      have s0 : atI (stopV (stAt sts n)) 0 = some (.int (stAt sts n).1) := rfl
      walk_at "go"
      refine ⟨d, _, dx4, _, _, rfl, y1, T.cl_Day, T.na_Day_stops, rfl, ?_⟩
      walk_at "go"
      refine ⟨_, _, _, _, qs ++ [p], rs ++ [x], rfl, e4, hR4, hq4, ?_, eq3.trans (map_map_app rfl)⟩
      rw [List.length_append, hl2]
      rfl
  · rintro σ H2 ⟨pl, lv, x5, x6, qs, rs, rfl, e2, hR2, hq2, hl2, eq2⟩
    rw [List.length_map, List.drop_length] at eq2
    walk_at "go"
    refine q3 ok rs ?_ R qs H2 e2 hR hR2 hq2
    rw [eq2]
    show some (rs ++ []) = some rs
    rw [List.append_nil]
/-! #### earliest -/
def sp_earliest (K : PySem.W.Frag) : Sp := fun vs H Q _ => ∃ (d wl r l : Addr) (ring : Bool) (len home start n : Int) (ps : List Addr) (sts : List Stp) (qs : List Addr) (ws : List Way) (_u : Unit), vs = [.ref d, .ref wl, .int n] ∧ DayAt K H d r l (wordOf ring) len home start ps sts ∧ 0 < len ∧ 0 ≤ n ∧ n < sts.length ∧ SqL K H wl (qs.map V.ref) ∧ WaysR H qs ws ∧
  (early (goTime ring len sts) ws n = none → ∀ H', Ex H H' → Q .non H') ∧
  (∀ v, early (goTime ring len sts) ws n = some v → ∀ p H', Ex H H' → H p = none → H' p = some (.tup (valV v)) → Q (.ref p) H')
set_option maxHeartbeats 4000000 in
theorem ok_earliest (T : Txt K mg D) : FnOk P w K mg base CX0 4 (He.ga K "earliest") (D "earliest") ["day", "ways", "last"] (sp_earliest K) := by
  refine T.F_earliest.ok sc_earliest (fun vs H Q E h => ?_) (fun cdv A outer s H vs Q E hr h => ?_)
  · obtain ⟨_, _, _, _, _, _, _, _, _, _, _, _, _, _, rfl, _⟩ := h
    rfl
  obtain ⟨d, wl, r, l, ring, len, home, start, n, ps, sts, qs, ws, _, rfl, hD, hl0, n0, n1, hW, hq, q1, q2⟩ := h
  refine ⟨_, PSs.nox (pss_cons (ps_set (i := 3) sc_earliest.nd rfl (Or.inl rfl) pe_non)
    (pss_cons (ps_for PassesOwn.never rfl (pi_list (pv 1)) (pg_tup rfl (pgs_cons (pg_name (i := 4) sc_earliest.nd rfl (Or.inl rfl)) (pgs_cons (pg_name (i := 5) sc_earliest.nd rfl (Or.inl rfl)) (pgs_cons (pg_name (i := 6) sc_earliest.nd rfl (Or.inl rfl)) pgs_nil))))
      (pss_cons (ps_set (i := 7) sc_earliest.nd rfl (Or.inl rfl) (pe_call (ok_visit T) hr rfl T.m_visit T.F_visit.kp T.b_visit .nil pass0 (pa_cons (pv 0) (pa_cons (pv 5) (pa_cons (pv 6) (pa_cons (pv 2) pa_nil))))))
      (pss_one (ps_if (PW.pt (pw_and (pt_cmpR op_notN1 (pv 7) pe_non (nomark _)) (pw_and1 (PW.pt (pw_or (pt_cmpR op_isN1 (pv 3) pe_non (nomark _)) (pw_or1 (pt_cmpR op_lt (pe_ix ix_tup (pv 7) pe_int (fun _ _ => rfl)) (pe_ix ix_tup (pv 3) pe_int (fun _ _ => rfl)) (nomark _)))))))) (pss_one (ps_set (i := 3) sc_earliest.nd rfl (Or.inl rfl) (pe_tup (pa_cons (pe_ix ix_tup (pv 7) pe_int (fun _ _ => rfl)) (pa_cons (pv 4) pa_nil))))) pss_nil))))
    (pss_one (ps_ret (pv 3))))), ?_⟩
  walk_at "go"
  have lm : (qs.map V.ref).length = qs.length := List.length_map _
  refine ⟨⟨_, hW⟩, for_list (K := K) (a := wl) (xs := qs.map V.ref) (fun i σ H' => ∃ (x : V) (y4 y5 y6 y7 : Option V), σ = [some (.ref d), some (.ref wl), some (.int n), some x, y4, y5, y6, y7] ∧ Ex H H' ∧ FoundR H H' ((ws.take i).foldl (stepE (goTime ring len sts) n) none) x) ⟨.non, _, _, _, _, rfl, Evl.Ex.refl _, .inl ⟨rfl, rfl⟩⟩ (fun i σ H' _ p => ?_) ?_ ?_⟩
  · obtain ⟨x, y4, y5, y6, y7, rfl, e, _⟩ := p
    exact Evl.ex_l e hW
  · rintro i y σ H1 hi ⟨x, y4, y5, y6, y7, rfl, e, f⟩
    obtain ⟨p, hp, rfl⟩ := map_ref_get hi
    obtain ⟨wy, hw, hpt⟩ := hq.get hp
    have hp1 := e _ _ hpt
    have tk : ws.take (i + 1) = ws.take i ++ [wy] := by rw [List.take_succ, hw]; rfl
    have fs : (ws.take (i + 1)).foldl (stepE (goTime ring len sts) n) none = stepE (goTime ring len sts) n ((ws.take i).foldl (stepE (goTime ring len sts) n) none) wy := by rw [tk, List.foldl_append]; rfl
    rw [fs]
    generalize (ws.take i).foldl (stepE (goTime ring len sts) n) none = fo at f ⊢
    walk_at "go"
    refine ⟨d, r, l, ring, len, home, start, wy.2.1, wy.2.2, n, ps, sts, (), (), rfl, hD.ex e, hl0, n0, n1, fun no => ?_, fun x2 yes p2 hp2 => ?_⟩
    · have g : goTime ring len sts wy.2.1 wy.2.2 n = none := by unfold goTime; rw [no]; rfl
      have se : stepE (goTime ring len sts) n fo wy = fo := by unfold stepE; rw [g]
      rw [se]
      walk_at "go"
      exact iteFb rfl (iteFb rfl ⟨x, _, _, _, _, rfl, e, f⟩)
    · have g : goTime ring len sts wy.2.1 wy.2.2 n = some x2.2.2 := by unfold goTime; rw [yes]; rfl
      have e2 := e.trans (Evl.Ex.new (o := .tup (rowV x2)) hp2)
      have h2 : (upd H1 p2 (.tup (rowV x2))) p2 = some (.tup (rowV x2)) := upd_same
      have f2 := f.ex (Evl.Ex.new (o := .tup (rowV x2)) hp2)
      generalize upd H1 p2 (.tup (rowV x2)) = H2 at e2 h2 f2
      have r2 : atI (rowV x2) 2 = some (.int x2.2.2) := rfl
      walk_at "go"
      rcases f2 with ⟨rfl, rfl⟩ | ⟨v, p3, rfl, rfl, f3, f4⟩
      · have se : stepE (goTime ring len sts) n none wy = some (x2.2.2, wy.1) := by unfold stepE; rw [g]
        rw [se]
        walk_at "go"
        intro p hp
        exact ⟨.ref p, _, _, _, _, rfl, e2.trans (Evl.Ex.new hp), .inr ⟨_, p, rfl, rfl, none_of_ex e2 hp, upd_same⟩⟩
      · have v0 : atI (valV v) 0 = some (.int v.1) := rfl
        have se : stepE (goTime ring len sts) n (some v) wy = if x2.2.2 < v.1 then some (x2.2.2, wy.1) else some v := by unfold stepE; rw [g]
        rw [se]
        walk_at "go"
        refine iteB (fun c => ?_) (fun c => ?_)
        · rw [if_pos (of_decide_eq_true c)]
          walk_at "go"
          intro p hp
          exact ⟨.ref p, _, _, _, _, rfl, e2.trans (Evl.Ex.new hp), .inr ⟨_, p, rfl, rfl, none_of_ex e2 hp, upd_same⟩⟩
        · rw [if_neg (of_decide_eq_false c)]
          exact ⟨.ref p3, _, _, _, _, rfl, e2, .inr ⟨_, p3, rfl, rfl, f3, f4⟩⟩
  · rintro σ H1 ⟨x, y4, y5, y6, y7, rfl, e, f⟩
    have all : ws.take (qs.map V.ref).length = ws := by rw [lm, hq.len, List.take_length]
    rw [all] at f
    walk_at "go"
    rcases f with ⟨f1, rfl⟩ | ⟨v, p, f1, rfl, f3, f4⟩
    · exact q1 f1 _ e
    · exact q2 v f1 p _ e f3 f4
/-! #### _law_stops_by -/
def sp_law_stops_by (K : PySem.W.Frag) : Sp := fun vs H Q _ => ∃ (r a : Addr) (ring : Bool) (len start many : Int) (ns : List Int), vs = [.ref r, .int start, .ref a, .int many] ∧ SqT K H r (roadV ring len) ∧ 1 ≤ len ∧ len ≤ 1000000000 ∧ 0 ≤ start ∧ start ≤ 1000000000000 ∧ SqL K H a (ns.map V.int) ∧ ns.length ≤ 63 ∧ 0 ≤ many ∧ many ≤ 1000 ∧
  ∀ sts ps l H', sts.length = many.toNat → (∀ s ∈ sts, goodStop ring len s) → Ex H H' → H l = none → H' l = some (.lst (ps.map V.ref)) → StopsR K H' ps sts → Q (.ref l) H'
set_option maxHeartbeats 4000000 in
theorem ok_law_stops_by (T : Txt K mg D) : FnOk P w K mg base CX0 4 (He.ga K "_law_stops_by") (D "_law_stops_by") ["_law_road", "_law_start", "_law_script", "_law_many_here"] (sp_law_stops_by K) := by
  refine T.F_law_stops_by.ok sc_law_stops_by (fun vs H Q E h => ?_) (fun cdv A outer s H vs Q E hr h => ?_)
  · obtain ⟨_, _, _, _, _, _, _, rfl, _⟩ := h
    rfl
  obtain ⟨r, a, ring, len, start, many, ns, rfl, hR, l1, l2, s0, s1, hS, hn, m0, m1, q⟩ := h
  refine ⟨_, PSs.nox (pss_one (ps_ret (pe_lc (own := [("_law_k", 4)]) (g := gName 4) (tt := tYes) rfl sc_law_stops_by.nd (pi_range1 rfl T.m_range (pa_cons (pv 3) pa_nil)) (blkOk_by (own := [("_law_k", 4)]) (N := N_law_stops_by) (sc := defScope s_law_stops_by) (by decide +kernel)) (fun _ _ _ _ _ => pg_name (i := 4) sc_law_stops_by.nd rfl (Or.inl rfl)) (fun _ _ _ _ _ => pts_nil) (fun _ _ _ _ _ => (by refine' pe_eq (t' := ?tt11) (pe_call (ok_law_stop_by T) hr rfl T.m_law_stop_by T.F_law_stop_by.kp T.b_law_stop_by .nil pass0 (pa_cons (pv 0) (pa_cons (pv 1) (pa_cons (pv 2) (pa_cons (pe_op op_add pe_int (pe_op op_mul pe_int (pv 4))) pa_nil))))) ?qq11; case qq11 => (first | (dsimp only [L2.Cx.blk]; done) | (dsimp only [L2.Cx.blk]; rfl) | rfl)))))), ?_⟩
  walk_at "go"
  intro D hD
  refine lc_range (lo := 0) (n := many.toNat) (fun i H' => ∃ sts ps, sts.length = i ∧ (∀ s ∈ sts, goodStop ring len s) ∧ Ex H H' ∧ H' D = some (.lst (ps.map V.ref)) ∧ StopsR K H' ps sts) ⟨[], [], rfl, (by simp), Evl.Ex.new hD, upd_same, .nil⟩ ?_ ?_
  · rintro i H' hi ⟨sts, ps, hlen, hg, e, hd, hP⟩
    walk_at "go"
    refine ⟨r, a, ring, len, start, _, ns, rfl, Evl.ex_t e hR, l1, l2, s0, s1, Evl.ex_l e hS, hn, fun s p H2 gs e2 hp hp2 => ⟨ps.map V.ref, e2 _ _ hd, ?_, sts ++ [s], ps ++ [p], ?_, ?_, ?_, ?_, ?_⟩⟩
    · rw [List.length_map, hP.len, hlen]
      exact Evl.sz_lt (by omega)
    · rw [List.length_append, hlen]
      rfl
    · intro z hz
      rcases List.mem_append.mp hz with hz | hz
      · exact hg z hz
      · rw [List.mem_singleton.mp hz]
        exact gs
    · exact Evl.Ex.mut (e.trans e2) hD
    · rw [upd_same, List.map_append]
      rfl
    · exact StopsR.at_lst (e2 _ _ hd) (StopsR.snoc (SqT.of hp2) (hP.ex e2))
  · rintro H' ⟨sts, ps, hlen, hg, e, hd, hP⟩
    exact q sts ps D H' hlen hg e hD hd hP
/-! #### ends -/
/-- when the van is home -/
def endOf (ring : Bool) (len : Int) (sts : List Stp) (home start : Int) (ns : List Int) (rs : List Row) : Int := match ns.getLast?, rs.getLast? with
  | some n, some x => x.2.2 + apartOf ring len (stAt sts n).1 home
  | _, _ => start
theorem end_snoc {ring : Bool} {len home start n : Int} {sts : List Stp} {ns : List Int} {rs : List Row} {x : Row} : endOf ring len sts home start (ns ++ [n]) (rs ++ [x]) = x.2.2 + apartOf ring len (stAt sts n).1 home := by
  unfold endOf
  rw [List.getLast?_append, List.getLast?_append]
  rfl
def sp_ends (K : PySem.W.Frag) : Sp := fun vs H Q E => ∃ (d o r l : Addr) (ring : Bool) (len home start : Int) (ps : List Addr) (sts : List Stp) (ns : List Int), vs = [.ref d, .ref o] ∧ DayAt K H d r l (wordOf ring) len home start ps sts ∧ SqL K H o (ns.map V.int) ∧ ns.length ≤ 4000 ∧ 0 < len ∧
  (¬ ordOk ns sts.length → ∀ H', Ex H H' → E (.ref (He.ga K "BadOrder")) none H') ∧
  (ordOk ns sts.length → rowsOf ring len sts home start ns = none → ∀ H', Ex H H' → E (.ref (He.ga K "Missed")) none H') ∧
  (ordOk ns sts.length → ∀ rs, rowsOf ring len sts home start ns = some rs → ∀ H', Ex H H' → Q (.int (endOf ring len sts home start ns rs)) H')
set_option maxHeartbeats 4000000 in
theorem ok_ends (T : Txt K mg D) : FnOk P w K mg base (L2.CX P w) 5 (He.ga K "ends") (D "ends") ["day", "order"] (sp_ends K) := by
  refine T.F_ends.ok sc_ends (fun vs H Q E h => ?_) (fun cdv A outer s H vs Q E hr h => ?_)
  · obtain ⟨_, _, _, _, _, _, _, _, _, _, _, rfl, _⟩ := h
    rfl
  obtain ⟨d, o, r, l, ring, len, home, start, ps, sts, ns, rfl, hD, hO, hz, hl0, q1, q2, q3⟩ := h
  refine ⟨_, (pss_cons (ps_set (i := 2) sc_ends.nd rfl (Or.inl rfl) (pe_call (ok_timetable T) hr rfl T.m_timetable T.F_timetable.kp T.b_timetable .nil (passes_call (E := E) (takes_of rfl rfl rfl rfl) (fun _ _ _ _ h => h)) (pa_cons (pv 0) (pa_cons (pv 1) pa_nil))))
    (pss_cons (ps_if (pt_not (pt_truth (pv 2) (by intro _; rfl))) (pss_one (ps_ret (pe_fld (pv 0) rfl))) pss_nil)
    (pss_cons (ps_set (i := 3) sc_ends.nd rfl (Or.inl rfl) (pe_ix ix_tup (pe_ix ix_list (pe_fld (pv 0) rfl) (pe_ix ix_list (pv 1) (pe_un un_neg pe_int) (fun _ _ => rfl)) (fun _ _ => rfl)) pe_int (fun _ _ => rfl)))
    (pss_cons (ps_set (i := 4) sc_ends.nd rfl (Or.inl rfl) (pe_ix ix_tup (pe_ix ix_list (pv 2) (pe_un un_neg pe_int) (fun _ _ => rfl)) pe_int (fun _ _ => rfl)))
    (pss_one (ps_ret (pe_op op_add (pv 4) (pe_call (ok_apart T) (hr.mono (by decide)) rfl T.m_apart T.F_apart.kp T.b_apart .nil pass0 (pa_cons (pe_fld (pv 0) rfl) (pa_cons (pv 3) (pa_cons (pe_fld (pv 0) rfl) pa_nil))))))))))), ?_⟩
  walk_at "go"
  refine ⟨d, o, r, l, ring, len, home, start, ps, sts, ns, rfl, hD, hO, hz, hl0, q1, q2, fun ok rs hrs l' qs H1 e1 fr hl hq => ?_⟩
  obtain ⟨⟨dx, k1⟩, k2, k3, k4⟩ := id (hD.ex e1)
  walk_at "go"
  have rl := rows_len hrs
  rcases split_last ns with rfl | ⟨ns', n, rfl⟩
  · obtain rfl : rs = [] := List.eq_nil_of_length_eq_zero rl
    obtain rfl : qs = [] := List.eq_nil_of_length_eq_zero hq.len
    refine ⟨false, Or.inl ⟨[], SqL.of hl, rfl⟩, ?_⟩
    walk_at "go"
    refine ⟨d, _, dx, _, _, rfl, k1, T.cl_Day, T.na_Day_start, rfl, ?_⟩
    exact q3 ok [] hrs _ e1
  · rcases split_last rs with rfl | ⟨rs', x, rfl⟩
    · rw [List.length_append] at rl; simp at rl
    obtain ⟨qs', p, rfl, hp⟩ := hq.last
    obtain ⟨n0, n1⟩ := ok.1 n (by simp)
    obtain ⟨t, ht, hT⟩ := stop_val k4 n0 n1
    have a1 : atI ((qs' ++ [p]).map V.ref) (-1) = some (.ref p) := by rw [List.map_append]; exact atI_last _ _
    have a2 : atI ((ns' ++ [n]).map V.int) (-1) = some (.int n) := by rw [List.map_append]; exact atI_last _ _
    have hO1 := Evl.ex_l e1 hO
    refine ⟨true, Or.inl ⟨_, SqL.of hl, (by simp)⟩, ?_⟩
    walk_at "go"
    refine ⟨d, _, dx, _, _, rfl, k1, T.cl_Day, T.na_Day_stops, rfl, ?_⟩
    walk_at "go"
    refine ⟨d, _, dx, _, _, rfl, k1, T.cl_Day, T.na_Day_road, rfl, ?_⟩
    walk_at "go"
    refine ⟨d, _, dx, _, _, rfl, k1, T.cl_Day, T.na_Day_home, rfl, ?_⟩
    walk_at "go"
    refine ⟨r, ring, len, (stAt sts n).1, home, rfl, k2, hl0, ?_⟩
    walk_at "go"
    have q' := q3 ok (rs' ++ [x]) hrs _ e1
    rw [end_snoc] at q'
    exact q'
/-! #### begun_way -/
def sp_begun_way (K : PySem.W.Frag) : Sp := fun vs H Q E => ∃ (d o r l : Addr) (ring : Bool) (len home start : Int) (ps : List Addr) (sts : List Stp) (ns : List Int), vs = [.ref d, .ref o] ∧ DayAt K H d r l (wordOf ring) len home start ps sts ∧ SqL K H o (ns.map V.int) ∧ ns.length ≤ 4000 ∧ 0 < len ∧
  (¬ ordOk ns sts.length → ∀ H', Ex H H' → E (.ref (He.ga K "BadOrder")) none H') ∧
  (ordOk ns sts.length → behindOf ring len sts home start ns = none → ∀ H', Ex H H' → Q .non H') ∧
  (ordOk ns sts.length → ∀ z, behindOf ring len sts home start ns = some z → ∀ p H', Ex H H' → H p = none → H' p = some (.tup [.int z.1, .int z.2]) → Q (.ref p) H')
set_option maxHeartbeats 4000000 in
theorem ok_begun_way (T : Txt K mg D) : FnOk P w K mg base (L2.CX P w) 5 (He.ga K "begun_way") (D "begun_way") ["day", "begun"] (sp_begun_way K) := by
  refine T.F_begun_way.ok sc_begun_way (fun vs H Q E h => ?_) (fun cdv A outer s H vs Q E hr h => ?_)
  · obtain ⟨_, _, _, _, _, _, _, _, _, _, _, rfl, _⟩ := h
    rfl
  obtain ⟨d, o, r, l, ring, len, home, start, ps, sts, ns, rfl, hD, hO, hz, hl0, q1, q2, q3⟩ := h
  refine ⟨_, (pss_cons (ps_try_only rfl rfl ⟨rfl, by decide, Or.inl T.m_Missed⟩ (takes_of rfl rfl rfl rfl)
      (fun W pn xe tk po => (by refine pss_eq (pss_one (ps_set (i := 2) sc_begun_way.nd rfl (Or.inl rfl) (pe_callS (ok_timetable T) hr rfl T.m_timetable T.F_timetable.kp T.b_timetable (fun σ => passAt tk σ) (by exact (pa_cons (pv 0) (pa_cons (pv 1) pa_nil)))))) ?_; first | (dsimp only [L2.Cx.suite, L2.Cx.tr]; done) | (dsimp only [L2.Cx.suite, L2.Cx.tr]; rfl) | rfl))
      (fun a oe cls d pn _ _ => (by refine pss_eq (pss_one (ps_ret pe_non)) ?_; first | (dsimp only [L2.Cx.suite, L2.Cx.tr]; done) | (dsimp only [L2.Cx.suite, L2.Cx.tr]; rfl) | rfl)))
    (pss_cons (ps_if (pt_not (pt_truth (pv 2) (by intro _; rfl))) (pss_one (ps_ret (pe_tup (pa_cons (pe_fld (pv 0) rfl) (pa_cons (pe_fld (pv 0) rfl) pa_nil))))) pss_nil)
    (pss_one (ps_ret (pe_tup (pa_cons (pe_ix ix_tup (pe_ix ix_list (pe_fld (pv 0) rfl) (pe_ix ix_list (pv 1) (pe_un un_neg pe_int) (fun _ _ => rfl)) (fun _ _ => rfl)) pe_int (fun _ _ => rfl)) (pa_cons (pe_ix ix_tup (pe_ix ix_list (pv 2) (pe_un un_neg pe_int) (fun _ _ => rfl)) pe_int (fun _ _ => rfl)) pa_nil))))))), ?_⟩
  walk_at "go"
  refine ⟨d, o, r, l, ring, len, home, start, ps, sts, ns, rfl, hD, hO, hz, hl0, fun bad H1 e1 => ?_, fun ok ms H1 e1 => ?_, fun ok rs hrs l' qs H1 e1 fr hl hq => ?_⟩
  · exact ⟨false, T.e_BadOrder_Missed, fun y => Bool.noConfusion y, fun _ => q1 bad _ e1⟩
  · exact ⟨true, T.e_Missed_Missed, fun _ a _ => q2 ok (behind_none ms) _ e1, fun y => Bool.noConfusion y⟩
  obtain ⟨⟨dx, k1⟩, k2, k3, k4⟩ := id (hD.ex e1)
  walk_at "go"
  have rl := rows_len hrs
  rcases split_last ns with rfl | ⟨ns', n, rfl⟩
  · obtain rfl : rs = [] := List.eq_nil_of_length_eq_zero rl
    obtain rfl : qs = [] := List.eq_nil_of_length_eq_zero hq.len
    refine ⟨false, Or.inl ⟨[], SqL.of hl, rfl⟩, ?_⟩
    walk_at "go"
    refine ⟨d, _, dx, _, _, rfl, k1, T.cl_Day, T.na_Day_home, rfl, ?_⟩
    walk_at "go"
    refine ⟨d, _, dx, _, _, rfl, k1, T.cl_Day, T.na_Day_start, rfl, ?_⟩
    walk_at "go"
    intro p hp
    exact q3 ok (home, start) rfl p _ (e1.trans (Evl.Ex.new hp)) (none_of_ex e1 hp) upd_same
  · rcases split_last rs with rfl | ⟨rs', x, rfl⟩
    · rw [List.length_append] at rl; simp at rl
    obtain ⟨qs', p, rfl, hp⟩ := hq.last
    obtain ⟨n0, n1⟩ := ok.1 n (by simp)
    obtain ⟨t, ht, hT⟩ := stop_val k4 n0 n1
    have a1 : atI ((qs' ++ [p]).map V.ref) (-1) = some (.ref p) := by rw [List.map_append]; exact atI_last _ _
    have a2 : atI ((ns' ++ [n]).map V.int) (-1) = some (.int n) := by rw [List.map_append]; exact atI_last _ _
    have r2 : atI (rowV x) 2 = some (.int x.2.2) := rfl
    have s0 : atI (stopV (stAt sts n)) 0 = some (.int (stAt sts n).1) := rfl
    have hO1 := Evl.ex_l e1 hO
    refine ⟨true, Or.inl ⟨_, SqL.of hl, (by simp)⟩, ?_⟩
    walk_at "go"
    refine ⟨d, _, dx, _, _, rfl, k1, T.cl_Day, T.na_Day_stops, rfl, ?_⟩
    walk_at "go"
    intro p hp
    exact q3 ok _ (behind_last hrs) p _ (e1.trans (Evl.Ex.new hp)) (none_of_ex e1 hp) upd_same
/-! #### table -/
def sp_table (P : Program) (W : World) (K : PySem.W.Frag) : Sp := fun vs H Q E => ∃ (d o r l : Addr) (ring : Bool) (len home start : Int) (ps : List Addr) (sts : List Stp) (ns : List Int), vs = [.ref d, .ref o] ∧ DayAt K H d r l (wordOf ring) len home start ps sts ∧ SqL K H o (ns.map V.int) ∧ ns.length ≤ 4000 ∧ 0 < len ∧ sts.length ≤ 7 ∧
  (¬ ordOk ns sts.length → ∀ H', Ex H H' → E (.ref (He.ga K "BadOrder")) none H') ∧
  (ordOk ns sts.length → ∀ t H', Ex H H' → H t = none → TabAt P W H' t (tableOf ring len sts home start ns) → Q (.ref t) H')
set_option maxHeartbeats 4000000 in
theorem ok_table (T : Txt K mg D) : FnOk P w K mg base (L2.CX P w) 6 (He.ga K "table") (D "table") ["day", "begun"] (sp_table P w K) := by
  refine T.F_table.ok sc_table (fun vs H Q E h => ?_) (fun cdv A outer s H vs Q E hr h => ?_)
  · obtain ⟨_, _, _, _, _, _, _, _, _, _, _, rfl, _⟩ := h
    rfl
  obtain ⟨d, o, r, l, ring, len, home, start, ps, sts, ns, rfl, hD, hO, hz, hl0, h7, q1, q2⟩ := h
  refine ⟨_, (pss_cons (ps_set (i := 2) sc_table.nd rfl (Or.inl rfl) (pe_call (ok_begun_way T) hr rfl T.m_begun_way T.F_begun_way.kp T.b_begun_way .nil (passes_call (E := E) (takes_of rfl rfl rfl rfl) (fun _ _ _ _ h => h)) (pa_cons (pv 0) (pa_cons (pv 1) pa_nil))))
    (pss_cons (ps_set (i := 3) sc_table.nd rfl (Or.inl rfl) pe_newN)
    (pss_cons (ps_if (pt_cmpR op_isN1 (pv 2) pe_non (nomark _)) (pss_one (ps_ret (pv 3))) pss_nil)
    (pss_cons (ps_asg (pv 2) (pg_tup rfl (pgs_cons (pg_name (i := 4) sc_table.nd rfl (Or.inl rfl)) (pgs_cons (pg_name (i := 5) sc_table.nd rfl (Or.inl rfl)) pgs_nil))))
    (pss_cons (ps_set (i := 6) sc_table.nd rfl (Or.inl rfl) (pe_call (ok_not_begun T) (hr.mono (by decide)) rfl T.m_not_begun T.F_not_begun.kp T.b_not_begun .nil pass0 (pa_cons (pv 0) (pa_cons (pv 1) pa_nil))))
    (pss_cons (ps_for (passes_of rfl) rfl (pi_range2 rfl T.m_range (pa_cons pe_int (pa_cons (pe_op op_add (pe_callB call_len_seq rfl T.m_len PySem.boot_len (pa_cons (pv 6) pa_nil)) pe_int) pa_nil))) (pg_name (i := 7) sc_table.nd rfl (Or.inl rfl))
      (pss_one (ps_for (passes_of rfl) rfl (pi_cmb rfl T.m_combinations (pa_cons (pv 6) (pa_cons (pv 7) pa_nil))) (pg_name (i := 8) sc_table.nd rfl (Or.inl rfl))
        (pss_one (ps_for (passes_of rfl) rfl (pi_tup (pv 8)) (pg_name (i := 9) sc_table.nd rfl (Or.inr rfl))
          (pss_cons (ps_set (i := 10) sc_table.nd rfl (Or.inl rfl) (pe_callTy call_tuple_of rfl T.m_tuple (by decide +kernel) (pa_cons (pe_lc (own := [("number", 11)]) (g := gName 11) (tt := _) rfl sc_table.nd (pi_tup (pv 8)) (blkOk_by (own := [("number", 11)]) (N := N_table) (sc := defScope s_table) (by decide +kernel)) (fun _ _ _ _ _ => pg_name (i := 11) sc_table.nd rfl (Or.inl rfl)) (fun _ _ _ _ _ => (by refine' pts_eq (t' := ?tq3) (pts_one (pt_cmpR op_ne (pv 11) (pv 9) (nomark _))) ?qt3; case qt3 => (first | (dsimp only [L2.Cx.blk]; done) | (dsimp only [L2.Cx.blk]; rfl) | rfl))) (fun _ _ _ _ _ => (by refine' pe_eq (t' := ?tt3) (pv 11) ?qq3; case qq3 => (first | (dsimp only [L2.Cx.blk]; done) | (dsimp only [L2.Cx.blk]; rfl) | rfl)))) pa_nil)))
          (pss_cons (ps_set (i := 12) sc_table.nd rfl (Or.inl rfl) (pe_ifExp (pt_truth (pv 10) (by intro _; rfl)) (pe_call (ok_ways_on T) (hr.mono (by decide)) rfl T.m_ways_on T.F_ways_on.kp T.b_ways_on .nil pass0 (pa_cons (pv 0) (pa_cons (pv 3) (pa_cons (pv 10) pa_nil)))) (pe_lst (pa_cons (pe_tup (pa_cons pe_non (pa_cons (pv 4) (pa_cons (pv 5) pa_nil)))) pa_nil))))
          (pss_cons (ps_set (i := 13) sc_table.nd rfl (Or.inl rfl) (pe_call (ok_earliest T) (hr.mono (by decide)) rfl T.m_earliest T.F_earliest.kp T.b_earliest .nil pass0 (pa_cons (pv 0) (pa_cons (pv 12) (pa_cons (pv 9) pa_nil)))))
          (pss_one (ps_if (pt_cmpR op_notN1 (pv 13) pe_non (nomark _)) (pss_one (ps_dputN (room9 hr) (pv 3) (pe_tup (pa_cons (pv 8) (pa_cons (pv 9) pa_nil))) (pv 13) rfl)) pss_nil))))))))))
    (pss_one (ps_ret (pv 3))))))))), ?_⟩
  walk_at "go"
  refine ⟨d, o, r, l, ring, len, home, start, ps, sts, ns, rfl, hD, hO, hz, hl0, q1, fun ok no H1 e1 => ?_, fun ok z yes sv H1 e1 fr1 hsv => ?_⟩
  · walk_at "go"
    intro t ht
    walk_at "go"
    refine q2 ok t _ (e1.trans (Evl.Ex.new ht)) (none_of_ex e1 ht) ⟨[], upd_same, ?_, ?_⟩
    · unfold tableOf
      rw [no]
      exact .nil
    · unfold tableOf
      rw [no]
      exact List.nodup_nil
  · walk_at "go"
    intro t ht
    have e2 := e1.trans (Evl.Ex.new (o := DN P w t []) ht)
    have ht2 : (upd H1 t (DN P w t [])) t = some (DN P w t []) := upd_same
    have hsv2 := (Evl.Ex.new (o := DN P w t []) ht) _ _ hsv
    have fr2 : H t = none := none_of_ex e1 ht
    dsimp only [L2.cxOf]
    generalize upd H1 t (DN P w t []) = H2 at e2 ht2 hsv2
    walk_at "go"
    refine ⟨d, o, r, l, wordOf ring, len, home, start, ps, sts, ns, rfl, hD.ex e2, Evl.ex_l e2 hO, h7, fun rt H3 e3 frt hrt => ?_⟩
    have e13 := e2.trans e3
    have ht3 := e3 _ _ ht2
    have lr : ((restOf sts.length ns).map V.int).length = (restOf sts.length ns).length := List.length_map _
    have lr7 := rest_len sts.length ns
    have ndr := rest_nodup sts.length ns
    walk_at "go"
    have ej : ((((restOf sts.length ns).map V.int).length : Int) + 1 - 1).toNat = (restOf sts.length ns).length := by rw [lr]; omega
    rw [ej]
    refine for_range (lo := 1) (n := (restOf sts.length ns).length) (fun i σ H' => ∃ x7 x8 x9 x10 x11 x12 x13 : Option V, σ = [some (.ref d), some (.ref o), some (.ref sv), some (.ref t), some (.int z.1), some (.int z.2), some (.ref rt), x7, x8, x9, x10, x11, x12, x13] ∧ Ex H H' ∧ H' rt = some (.tup ((restOf sts.length ns).map V.int)) ∧ TabAt P w H' t (tabOf ring len sts z.1 z.2 (keysUpTo (restOf sts.length ns) i))) ⟨_, _, _, _, _, _, _, rfl, e13, hrt, [], ht3, .nil, List.nodup_nil⟩ ?_ ?_
    · rintro i σ H4 hi ⟨x7, x8, x9, x10, x11, x12, x13, rfl, e4, hrt4, tab4⟩
      walk_at "go"
      have ei : (1 + (i : Int)) = ((i + 1 : Nat) : Int) := by omega
      refine ⟨rt, restOf sts.length ns, i + 1, by rw [ei], SqT.of hrt4, by omega, by omega, by omega, for_it walk_cmb (fun j σ H' => ∃ x8 x9 x10 x11 x12 x13 : Option V, σ = [some (.ref d), some (.ref o), some (.ref sv), some (.ref t), some (.int z.1), some (.int z.2), some (.ref rt), some (.int (1 + i)), x8, x9, x10, x11, x12, x13] ∧ Ex H H' ∧ H' rt = some (.tup ((restOf sts.length ns).map V.int)) ∧ TabAt P w H' t (tabOf ring len sts z.1 z.2 (keysUpTo (restOf sts.length ns) i ++ ((combos (i + 1) (restOf sts.length ns)).take j).flatMap keysD))) ⟨_, _, _, _, _, _, rfl, e4, hrt4, by rw [List.take_zero, List.flatMap_nil, List.append_nil]; exact tab4⟩ (fun _ _ _ _ _ => True.intro) ?_ ?_⟩
      · rintro j x σ H5 H6' hj ⟨x8, x9, x10, x11, x12, x13, rfl, e5, hrt5, tab5⟩ ⟨dd, done, hdone, rfl, fdd, rfl⟩
        obtain ⟨sub, ldone⟩ := mem_combos.mp (List.mem_of_getElem? hdone)
        have ex6 := Evl.Ex.new (o := .tup (done.map V.int)) fdd
        have e6 := e5.trans ex6
        have hrt6 := ex6 _ _ hrt5
        have tab6 := tab5.ex ex6
        have hdd6 : (upd H5 dd (.tup (done.map V.int))) dd = some (.tup (done.map V.int)) := upd_same
        clear ex6
        generalize upd H5 dd (.tup (done.map V.int)) = H6 at e6 hrt6 tab6 hdd6
        have ld : (done.map V.int).length = done.length := List.length_map _
        walk_at "go"
        refine ⟨⟨_, SqT.of hdd6⟩, for_tup (K := K) (a := dd) (xs := done.map V.int) (fun k σ H' => ∃ x9 x10 x11 x12 x13 : Option V, σ = [some (.ref d), some (.ref o), some (.ref sv), some (.ref t), some (.int z.1), some (.int z.2), some (.ref rt), some (.int (1 + i)), some (.ref dd), x9, x10, x11, x12, x13] ∧ Ex H H' ∧ H' rt = some (.tup ((restOf sts.length ns).map V.int)) ∧ H' dd = some (.tup (done.map V.int)) ∧ TabAt P w H' t (tabOf ring len sts z.1 z.2 (keysUpTo (restOf sts.length ns) i ++ (((combos (i + 1) (restOf sts.length ns)).take j).flatMap keysD ++ (done.take k).map fun x => (done, x))))) ⟨_, _, _, _, _, rfl, e6, hrt6, hdd6, by rw [List.take_zero, List.map_nil, List.append_nil]; exact tab6⟩ (fun k σ H' _ p => ?_) ?_ ?_⟩
        · obtain ⟨x9, x10, x11, x12, x13, rfl, e, _, q, _⟩ := p
          exact SqT.of q
        · rintro k y σ H7 hk ⟨x9, x10, x11, x12, x13, rfl, e7, hrt7, hdd7, tab7⟩
          obtain ⟨last, hlast, rfl⟩ := map_int_get hk
          have lmem : last ∈ done := List.mem_of_getElem? hlast
          have rm := rest_mem.mp (sub.subset lmem)
          walk_at "go"
          refine ⟨⟨_, SqT.of hdd7⟩, fun L hL => lc_tup (K := K) (a := dd) (xs := done.map V.int) (fun m H' => Ex H7 H' ∧ H' L = some (.lst ((othersOf (done.take m) last).map V.int))) ⟨Evl.Ex.new hL, upd_same⟩ (fun m H' _ p => SqT.of (p.1 _ _ hdd7)) ?_ ?_⟩
          · rintro m y H' hm ⟨em, hdm⟩
            obtain ⟨n, hn, rfl⟩ := map_int_get hm
            walk_at "go"
            have so : othersOf (done.take (m + 1)) last = othersOf (done.take m) last ++ (if n = last then [] else [n]) := by
              rw [List.take_succ, hn]
              unfold othersOf
              rw [List.filter_append]
              congr 1
              by_cases c : n = last <;> simp [c]
            refine iteB (fun c => ?_) (fun c => ?_)
            · have c1 : ¬ n = last := fun z => nndec c (congrArg V.int z)
              walk_at "go"
              refine ⟨_, hdm, Evl.sz_lt ?_, Evl.Ex.mut em hL, ?_⟩
              · rw [List.length_map]
                have h1 : (othersOf (done.take m) last).length ≤ (done.take m).length := List.length_filter_le _ _
                rw [List.length_take] at h1
                omega
              · rw [upd_same, so, if_neg c1, List.map_append]
                rfl
            · have c1 : n = last := by
                have z := ndec c
                injection z
              rw [so, if_pos c1, List.append_nil]
              exact ⟨em, hdm⟩
          rintro H8' ⟨em, hdm⟩
          rw [ld, List.take_length] at hdm
          walk_at "go"
          refine ⟨_, _, rfl, Or.inl ⟨SqL.of hdm, fun ot hot => ?_⟩⟩
          have ex8 := em.trans (Evl.Ex.new (o := .tup ((othersOf done last).map V.int)) hot)
          have hot8 : (upd H8' ot (.tup ((othersOf done last).map V.int))) ot = some (.tup ((othersOf done last).map V.int)) := upd_same
          generalize upd H8' ot (.tup ((othersOf done last).map V.int)) = H8 at ex8 hot8
          have e8 := e7.trans ex8
          have cell8 := cell_step (goTime ring len sts) (fun n => (stAt sts n).1) z.1 z.2 (ks := keysUpTo (restOf sts.length ns) i ++ (((combos (i + 1) (restOf sts.length ns)).take j).flatMap keysD ++ (done.take k).map fun x => (done, x))) ndr sub ldone lmem (fun q hq => List.mem_append_left _ hq)
          walk_at "go"
          obtain ⟨post, whole⟩ : ∃ post, keysUpTo (restOf sts.length ns) (i + 1) = (keysUpTo (restOf sts.length ns) i ++ (((combos (i + 1) (restOf sts.length ns)).take j).flatMap keysD ++ (done.take k).map fun x => (done, x))) ++ (done, last) :: post := by
            obtain ⟨post, hp⟩ := flat_prefix hdone hlast
            refine ⟨post, ?_⟩
            rw [keysUpTo]
            unfold keysR
            rw [hp]
            simp [List.append_assoc]
          have kks : (keysUpTo (restOf sts.length ns) i ++ (((combos (i + 1) (restOf sts.length ns)).take j).flatMap keysD ++ (done.take (k + 1)).map fun x => (done, x))) = (keysUpTo (restOf sts.length ns) i ++ (((combos (i + 1) (restOf sts.length ns)).take j).flatMap keysD ++ (done.take k).map fun x => (done, x))) ++ [(done, last)] := by
            rw [List.take_succ, hlast]
            simp [List.append_assoc]
          generalize hks1 : (keysUpTo (restOf sts.length ns) i ++ (((combos (i + 1) (restOf sts.length ns)).take j).flatMap keysD ++ (done.take (k + 1)).map fun x => (done, x))) = KS1 at kks
          generalize (keysUpTo (restOf sts.length ns) i ++ (((combos (i + 1) (restOf sts.length ns)).take j).flatMap keysD ++ (done.take k).map fun x => (done, x))) = KS at tab7 cell8 whole kks
          have ndw := keysUpTo_nodup ndr (i + 1)
          rw [whole] at ndw
          have fresh : (done, last) ∉ KS := fun m => (List.nodup_append.mp ndw).2.2 _ m _ (List.mem_cons_self ..) rfl
          have nds : KS1.Nodup := by
            rw [kks]
            exact List.Sublist.nodup ((List.Sublist.refl KS).append (List.cons_sublist_cons.mpr (List.nil_sublist post))) ndw
          have lks : KS.length ≤ 6272 := by
            have h1 := keysUpTo_len (rest := restOf sts.length ns) (by omega) (i + 1) (by omega)
            rw [whole, List.length_append] at h1
            omega
          have kk : tabOf ring len sts z.1 z.2 KS1 = tabOf ring len sts z.1 z.2 KS ++ (match cell (goTime ring len sts) (fun n => (stAt sts n).1) z.1 z.2 done last with | none => [] | some v => [((done, last), v)]) := by
            unfold tabOf
            rw [kks]
            exact ents_snoc _ _ _ _ KS (done, last)
          have hv8 : ∀ n ∈ othersOf done last, 0 ≤ n ∧ n < sts.length := fun n hn => (rest_mem.mp ((others_sub sub).subset hn)).1
          have l8 : (othersOf done last).length ≤ 7 := by
            have h1 : (othersOf done last).length ≤ done.length := List.length_filter_le _ _
            omega
          by_cases c0 : othersOf done last = []
          · rw [if_pos c0] at cell8
            refine ⟨false, Or.inr (Or.inl ⟨[], by rw [c0] at hot8; exact SqT.of hot8, rfl⟩), ?_⟩
            walk_at "go"
            intro p hp
            walk_at "go"
            intro wl hpl
            have nwp : p ≠ wl := ne_of_none (upd_same (H := H8) (a := p)) hpl
            have e89 := (Evl.Ex.new (o := .tup [.non, .int z.1, .int z.2]) hp).trans (Evl.Ex.new (o := .lst [.ref p]) hpl)
            have hwl : (upd (upd H8 p (.tup [.non, .int z.1, .int z.2])) wl (.lst [.ref p])) wl = some (.lst ([p].map V.ref)) := upd_same
            have hq : WaysR (upd (upd H8 p (.tup [.non, .int z.1, .int z.2])) wl (.lst [.ref p])) [p] [(none, z.1, z.2)] := .cons (by rw [upd_ne nwp]; exact upd_same) .nil
            generalize upd (upd H8 p (.tup [.non, .int z.1, .int z.2])) wl (.lst [.ref p]) = H9 at e89 hwl hq
            have e79 := ex8.trans e89
            clear nwp hpl hp
            generalize [p] = qs at hwl hq
            generalize [(none, z.1, z.2)] = ws at hq cell8
            walk_at "go"
            refine ⟨d, wl, r, l, ring, len, home, start, last, ps, sts, qs, ws, (), rfl, hD.ex (e7.trans e79), hl0, rm.1.1, rm.1.2, SqL.of hwl, hq, fun no H10 e10 => ?_, fun v yes p H10 e10 fp hp10 => ?_⟩
            · rw [no] at cell8
              have e710 := e79.trans e10
              walk_at "go"
              refine ⟨_, _, _, _, _, rfl, e7.trans e710, e710 _ _ hrt7, e710 _ _ hdd7, ?_⟩
              rw [kk, ← cell8, List.append_nil]
              exact tab7.ex e710
            · rw [yes] at cell8
              have e710 := e79.trans e10
              walk_at "go"
              intro a ha
              have ex11 := Evl.Ex.new (o := .tup [.ref dd, .int last]) ha
              have e711 := e710.trans ex11
              have ha11 : (upd H10 a (.tup [.ref dd, .int last])) a = some (.tup [.ref dd, .int last]) := upd_same
              have hp11 := ex11 _ _ hp10
              generalize upd H10 a (.tup [.ref dd, .int last]) = H11 at e711 ha11 hp11
              obtain ⟨xs, u1, u2, u3⟩ := tab7.ex e711
              have lx : xs.length < sizeLine := by
                rw [u2.len, sizeLine_eq]
                have h1 : (tabOf ring len sts z.1 z.2 KS).length ≤ KS.length := List.length_filterMap_le _ _
                omega
              have noat : atN xs (keyN (done, last)) = none := by
                rcases u2.look (done, last) with ⟨_, z2⟩ | ⟨v2, p2, z1, _⟩
                · exact z2
                · unfold tabOf at z1
                  rw [look_ents, if_neg fresh] at z1
                  cases z1
              refine ⟨a, t, keyN (done, last), xs, rfl, rfl, ⟨.inl u1, u2.nok u3, keyV_at ha11 (e711 _ _ hdd7), depth_key _⟩, u1, lx, ?_⟩
              have put : putN xs (keyN (done, last)) a (.ref p) = xs ++ [(keyN (done, last), a, .ref p)] := by
                unfold putN
                rw [noat]
                rfl
              rw [put]
              have keep : ∀ b ys, H11 b = some (.tup ys) → upd H11 t (DN P w t (xs ++ [(keyN (done, last), a, .ref p)])) b = some (.tup ys) := tup_at_dn u1
              refine ⟨_, _, _, _, _, rfl, Evl.Ex.mut (e7.trans e711) fr2, keep _ _ (e711 _ _ hrt7), keep _ _ (e711 _ _ hdd7), ?_⟩
              refine ⟨xs ++ [(keyN (done, last), a, .ref p)], upd_same, ?_, ents_nodup _ _ _ _ nds⟩
              rw [kk, ← cell8]
              exact TabR.snoc ⟨rfl, (keyV_at ha11 (e711 _ _ hdd7)).mono keep, p, rfl, keep _ _ hp11⟩ (u2.mono keep)
          · rw [if_neg c0] at cell8
            refine ⟨true, Or.inr (Or.inl ⟨_, SqT.of hot8, ?_⟩), ?_⟩
            · cases zz : othersOf done last with
              | nil => exact absurd zz c0
              | cons _ _ => rfl
            walk_at "go"
            refine ⟨d, t, ot, r, l, wordOf ring, len, home, start, ps, sts, tabOf ring len sts z.1 z.2 KS, othersOf done last, rfl, hD.ex e8, tab7.ex ex8, hot8, hv8, l8, fun wl qs H9 e9 fwl hwl hq => ?_⟩
            have e79 := ex8.trans e9
            have cell9 : early (goTime ring len sts) (waysOf (fun n => (stAt sts n).1) (fun n => look (tabOf ring len sts z.1 z.2 KS) (othersOf done last, n)) (othersOf done last)) last = cell (goTime ring len sts) (fun n => (stAt sts n).1) z.1 z.2 done last := cell8
            replace cell8 := cell9
            clear cell9
            generalize waysOf _ _ (othersOf done last) = ws at hq cell8
            walk_at "go"
            refine ⟨d, wl, r, l, ring, len, home, start, last, ps, sts, qs, ws, (), rfl, hD.ex (e7.trans e79), hl0, rm.1.1, rm.1.2, SqL.of hwl, hq, fun no H10 e10 => ?_, fun v yes p H10 e10 fp hp10 => ?_⟩
            · rw [no] at cell8
              have e710 := e79.trans e10
              walk_at "go"
              refine ⟨_, _, _, _, _, rfl, e7.trans e710, e710 _ _ hrt7, e710 _ _ hdd7, ?_⟩
              rw [kk, ← cell8, List.append_nil]
              exact tab7.ex e710
            · rw [yes] at cell8
              have e710 := e79.trans e10
              walk_at "go"
              intro a ha
              have ex11 := Evl.Ex.new (o := .tup [.ref dd, .int last]) ha
              have e711 := e710.trans ex11
              have ha11 : (upd H10 a (.tup [.ref dd, .int last])) a = some (.tup [.ref dd, .int last]) := upd_same
              have hp11 := ex11 _ _ hp10
              generalize upd H10 a (.tup [.ref dd, .int last]) = H11 at e711 ha11 hp11
              obtain ⟨xs, u1, u2, u3⟩ := tab7.ex e711
              have lx : xs.length < sizeLine := by
                rw [u2.len, sizeLine_eq]
                have h1 : (tabOf ring len sts z.1 z.2 KS).length ≤ KS.length := List.length_filterMap_le _ _
                omega
              have noat : atN xs (keyN (done, last)) = none := by
                rcases u2.look (done, last) with ⟨_, z2⟩ | ⟨v2, p2, z1, _⟩
                · exact z2
                · unfold tabOf at z1
                  rw [look_ents, if_neg fresh] at z1
                  cases z1
              refine ⟨a, t, keyN (done, last), xs, rfl, rfl, ⟨.inl u1, u2.nok u3, keyV_at ha11 (e711 _ _ hdd7), depth_key _⟩, u1, lx, ?_⟩
              have put : putN xs (keyN (done, last)) a (.ref p) = xs ++ [(keyN (done, last), a, .ref p)] := by
                unfold putN
                rw [noat]
                rfl
              rw [put]
              have keep : ∀ b ys, H11 b = some (.tup ys) → upd H11 t (DN P w t (xs ++ [(keyN (done, last), a, .ref p)])) b = some (.tup ys) := tup_at_dn u1
              refine ⟨_, _, _, _, _, rfl, Evl.Ex.mut (e7.trans e711) fr2, keep _ _ (e711 _ _ hrt7), keep _ _ (e711 _ _ hdd7), ?_⟩
              refine ⟨xs ++ [(keyN (done, last), a, .ref p)], upd_same, ?_, ents_nodup _ _ _ _ nds⟩
              rw [kk, ← cell8]
              exact TabR.snoc ⟨rfl, (keyV_at ha11 (e711 _ _ hdd7)).mono keep, p, rfl, keep _ _ hp11⟩ (u2.mono keep)
        · rintro σ H7 ⟨x9, x10, x11, x12, x13, rfl, e7, hrt7, hdd7, tab7⟩
          rw [ld, List.take_length] at tab7
          refine ⟨_, _, _, _, _, _, rfl, e7, hrt7, ?_⟩
          rw [List.take_succ, hdone]
          show TabAt P w H7 t (tabOf ring len sts z.1 z.2 (keysUpTo (restOf sts.length ns) i ++ ((combos (i + 1) (restOf sts.length ns)).take j ++ [done]).flatMap keysD))
          rw [List.flatMap_append, List.flatMap_cons, List.flatMap_nil, List.append_nil]
          exact tab7
      · rintro σ H5 ⟨x8, x9, x10, x11, x12, x13, rfl, e5, hrt5, tab5⟩
        rw [List.take_length] at tab5
        exact ⟨_, _, _, _, _, _, _, rfl, e5, hrt5, tab5⟩
    · rintro σ H4 ⟨x7, x8, x9, x10, x11, x12, x13, rfl, e4, hrt4, tab4⟩
      walk_at "go"
      refine q2 ok t H4 e4 fr2 ?_
      unfold tableOf
      rw [yes]
      exact tab4
/-! #### tour_end -/
def sp_tour_end (K : PySem.W.Frag) : Sp := fun vs H Q E => ∃ (d o r l : Addr) (ring : Bool) (len home start : Int) (ps : List Addr) (sts : List Stp) (ns : List Int), vs = [.ref d, .ref o] ∧ DayAt K H d r l (wordOf ring) len home start ps sts ∧ SqL K H o (ns.map V.int) ∧ ns.length ≤ 4000 ∧ 0 < len ∧
  (¬ ordOk ns sts.length → ∀ H', Ex H H' → E (.ref (He.ga K "BadOrder")) none H') ∧
  (ordOk ns sts.length → behindOf ring len sts home start ns = none → ∀ H', Ex H H' → Q .non H') ∧
  (ordOk ns sts.length → ∀ z, behindOf ring len sts home start ns = some z → ∀ H', Ex H H' → Q (.int (z.2 + apartOf ring len z.1 home)) H')
set_option maxHeartbeats 4000000 in
theorem ok_tour_end (T : Txt K mg D) : FnOk P w K mg base (L2.CX P w) 6 (He.ga K "tour_end") (D "tour_end") ["day", "order"] (sp_tour_end K) := by
  refine T.F_tour_end.ok sc_tour_end (fun vs H Q E h => ?_) (fun cdv A outer s H vs Q E hr h => ?_)
  · obtain ⟨_, _, _, _, _, _, _, _, _, _, _, rfl, _⟩ := h
    rfl
  obtain ⟨d, o, r, l, ring, len, home, start, ps, sts, ns, rfl, hD, hO, hz, hl0, q1, q2, q3⟩ := h
  refine ⟨_, (pss_one (ps_try_only rfl rfl ⟨rfl, by decide, Or.inl T.m_Missed⟩ (takes_of rfl rfl rfl rfl)
      (fun W pn xe tk po => (by refine pss_eq (pss_one (ps_ret (pe_callS (ok_ends T) hr rfl T.m_ends T.F_ends.kp T.b_ends (fun σ => passAt tk σ) (by exact (pa_cons (pv 0) (pa_cons (pv 1) pa_nil)))))) ?_; first | (dsimp only [L2.Cx.suite, L2.Cx.tr]; done) | (dsimp only [L2.Cx.suite, L2.Cx.tr]; rfl) | rfl))
      (fun a oe cls d pn _ _ => (by refine pss_eq (pss_one (ps_ret pe_non)) ?_; first | (dsimp only [L2.Cx.suite, L2.Cx.tr]; done) | (dsimp only [L2.Cx.suite, L2.Cx.tr]; rfl) | rfl)))), ?_⟩
  walk_at "go"
  refine ⟨d, o, r, l, ring, len, home, start, ps, sts, ns, rfl, hD, hO, hz, hl0, fun bad H1 e1 => ?_, fun ok ms H1 e1 => ?_, fun ok rs hrs H1 e1 => ?_⟩
  · exact ⟨false, T.e_BadOrder_Missed, fun y => Bool.noConfusion y, fun _ => q1 bad _ e1⟩
  · exact ⟨true, T.e_Missed_Missed, fun _ a _ => q2 ok (behind_none ms) _ e1, fun y => Bool.noConfusion y⟩
  have rl := rows_len hrs
  rcases split_last ns with rfl | ⟨ns', n, rfl⟩
  · obtain rfl : rs = [] := List.eq_nil_of_length_eq_zero rl
    have z := q3 ok (home, start) rfl H1 e1
    rw [apart_self hl0, Int.add_zero] at z
    exact z
  · rcases split_last rs with rfl | ⟨rs', x, rfl⟩
    · rw [List.length_append] at rl; simp at rl
    have z := q3 ok _ (behind_last hrs) H1 e1
    rw [end_snoc]
    exact z
/-! #### read -/
def sp_read (K : PySem.W.Frag) : Sp := fun vs H Q _ => ∃ (ring : Bool) (len home start : Int) (sts : List Stp) (_u _v : Unit), vs = [.str (S (dayT ring len home start sts))] ∧ GoodDay ring len home start sts ∧
  ∀ d r l ps H', Ex H H' → H d = none → H l = none → DayAt K H' d r l (wordOf ring) len home start ps sts → H' r = some (.tup (roadV ring len)) → (∀ p ∈ ps, ∃ s, H' p = some (.tup (stopV s))) → Q (.ref d) H'
set_option maxHeartbeats 4000000 in
theorem ok_read (T : Txt K mg D) : FnOk P w K mg base (L2.CX P w) 6 (He.ga K "read") (D "read") ["text"] (sp_read K) := by
  refine T.F_read.ok sc_read (fun vs H Q E h => ?_) (fun cdv A outer s H vs Q E hr h => ?_)
  · obtain ⟨_, _, _, _, _, _, _, rfl, _⟩ := h
    rfl
  obtain ⟨ring, len, home, start, sts, _, _, rfl, gd, q⟩ := h
  refine ⟨_, (pss_cons (ps_if (pt_not (pt_val (pe_m1 PySem.F.slot_str_endswith PySem.F.type_str_endswith mt_endswith (pv 0) pe_str))) (pss_one (ps_raise rfl (takes_of rfl rfl rfl rfl) (pmk_own PySem.F.excBase_ValueError T.x_NoDay T.m_NoDay T.kp_NoDay (raises_own T.sb_NoDay T.ty_NoDay) (by exact rfl)))) pss_nil)
    (pss_cons (ps_set (i := 1) sc_read.nd rfl (Or.inl rfl) (pe_m1 PySem.F.slot_str_split PySem.F.type_str_split mt_split (pe_slice sl_str (pv 0) po_none (po_some (pe_un un_neg pe_int))) pe_str))
    (pss_cons (ps_if (pt_cmpR op_lt (pe_callB call_len_seq rfl T.m_len PySem.boot_len (pa_cons (pv 1) pa_nil)) pe_int (nomark _)) (pss_one (ps_raise rfl (takes_of rfl rfl rfl rfl) (pmk_own PySem.F.excBase_ValueError T.x_NoDay T.m_NoDay T.kp_NoDay (raises_own T.sb_NoDay T.ty_NoDay) (by exact rfl)))) pss_nil)
    (pss_cons (ps_set (i := 2) sc_read.nd rfl (Or.inl rfl) (pe_call (ok_road_of T) (hr.mono (by decide)) rfl T.m_road_of T.F_road_of.kp T.b_road_of .nil (passes_call (E := E) (takes_of rfl rfl rfl rfl) (fun _ _ _ _ h => h)) (pa_cons (pe_ix ix_list (pv 1) pe_int (fun _ _ => rfl)) pa_nil)))
    (pss_cons (ps_asg (pe_call (ok_numbers_of T) (hr.mono (by decide)) rfl T.m_numbers_of T.F_numbers_of.kp T.b_numbers_of .nil (passes_call (E := E) (takes_of rfl rfl rfl rfl) (fun _ _ _ _ h => h)) (pa_cons (pe_ix ix_list (pv 1) pe_int (fun _ _ => rfl)) (pa_cons (pe_glob (v := V.ref (He.ga K "HOME_WORDS")) rfl T.m_HOME_WORDS rfl) pa_nil))) (pg_unl rfl (pgs_cons (pg_name (i := 3) sc_read.nd rfl (Or.inl rfl)) (pgs_cons (pg_name (i := 4) sc_read.nd rfl (Or.inl rfl)) pgs_nil))))
    (pss_cons (ps_setLc (i := 5) (own := [("row", 6)]) (g := gName 6) (tt := tYes) rfl sc_read.nd rfl rfl (sw_true rfl rfl rfl (by decide +kernel)) (pi_list (pe_slice sl_list (pv 1) (po_some pe_int) po_none)) (blkOk_by (own := [("row", 6)]) (N := N_read) (sc := defScope s_read) (by decide +kernel)) (fun _ _ _ _ _ => pg_name (i := 6) sc_read.nd rfl (Or.inl rfl)) (fun _ _ _ _ _ => pts_nil) (fun _ _ _ _ _ => (by refine' pe_eq (t' := ?tt6) (pe_callTy call_tuple_of rfl T.m_tuple (by decide +kernel) (pa_cons (pe_call (ok_numbers_of T) (hr.mono (by decide)) rfl T.m_numbers_of T.F_numbers_of.kp T.b_numbers_of .nil passL (pa_cons (pv 6) (pa_cons (pe_glob (v := V.ref (He.ga K "STOP_WORDS")) rfl T.m_STOP_WORDS rfl) pa_nil))) pa_nil)) ?qq6; case qq6 => (first | (dsimp only [L2.Cx.blk]; done) | (dsimp only [L2.Cx.blk]; rfl) | rfl))))
    (pss_one (ps_ret (pe_make T.k_Day (ok_Day___init T) hr rfl T.m_Day T.b_Day___init .nil (passes_call (E := E) (takes_of rfl rfl rfl rfl) (fun _ _ _ _ h => h)) (pa_cons (pv 2) (pa_cons (pv 3) (pa_cons (pv 4) (pa_cons (pv 5) pa_nil))))))))))))), ?_⟩
  walk_at "go"
  refine ⟨⟨_, rfl⟩, ?_⟩
  walk_at "go"
  have hrows := rows_ok gd
  have hsz := dayT_size gd
  refine iteFb (by rw [ends_ln, decT (dayT_ends ring len home start sts)]; rfl) ?_
  walk_at "go"
  refine ⟨Evl.sz_of (by rw [S_len]; omega), ⟨_, rfl⟩, ?_⟩
  rw [cut_last, dayT_cut]
  have hra := rows_all gd
  have lT : ((rowsW ring len home start sts).map (joinL [32])) = joinL [32] [tl (wordOf ring), num len] :: joinL [32] [wHome, num home, wAt, num start] :: sts.map fun s => joinL [32] (stopW s) := by
    unfold rowsW
    rw [List.map_cons, List.map_cons, List.map_map]
    rfl
  have hsz2 : (joinL [10] ((rowsW ring len home start sts).map (joinL [32]))).length ≤ 1300 := by
    rw [← dayT_cut, List.length_dropLast]
    omega
  walk_at "go"
  refine ⟨Evl.sz_of (by rw [S_len]; omega), fun p hp => ?_⟩
  rw [ln_S, split_rows (by decide) (by rw [lT]; simp) (fun w hw => by obtain ⟨ws, hws, rfl⟩ := List.mem_map.mp hw; exact (hra ws hws).2), lT]
  clear lT hra hsz2
  have h7 : sts.length ≤ 7 := gd.2.2.2.2.2
  have e1 := Evl.Ex.new (o := .lst (((joinL [32] [tl (wordOf ring), num len] :: joinL [32] [wHome, num home, wAt, num start] :: sts.map fun s => joinL [32] (stopW s)).map S).map V.str)) hp
  have h1 : (upd H p (.lst (((joinL [32] [tl (wordOf ring), num len] :: joinL [32] [wHome, num home, wAt, num start] :: sts.map fun s => joinL [32] (stopW s)).map S).map V.str))) p = some (.lst (.str (S (joinL [32] [tl (wordOf ring), num len])) :: .str (S (joinL [32] [wHome, num home, wAt, num start])) :: sts.map fun s => V.str (S (joinL [32] (stopW s))))) := by
    rw [upd_same, List.map_cons, List.map_cons, List.map_cons, List.map_cons, List.map_map, List.map_map]
    rfl
  generalize upd H p (.lst (((joinL [32] [tl (wordOf ring), num len] :: joinL [32] [wHome, num home, wAt, num start] :: sts.map fun s => joinL [32] (stopW s)).map S).map V.str)) = H1 at e1 h1
  generalize hr0 : joinL [32] [tl (wordOf ring), num len] = r0 at h1
  generalize hr1 : joinL [32] [wHome, num home, wAt, num start] = r1 at h1
  have a0 : atI (V.str (S r0) :: V.str (S r1) :: sts.map fun s => V.str (S (joinL [32] (stopW s)))) ((0 : Nat) : Int) = some (.str (S r0)) := atI_nat rfl
  have a1 : atI (V.str (S r0) :: V.str (S r1) :: sts.map fun s => V.str (S (joinL [32] (stopW s)))) ((1 : Nat) : Int) = some (.str (S r1)) := atI_nat rfl
  have h1s : SqL K H1 p (V.str (S r0) :: V.str (S r1) :: sts.map fun s => V.str (S (joinL [32] (stopW s)))) := SqL.of h1
  have hlen : (V.str (S r0) :: V.str (S r1) :: sts.map fun s => V.str (S (joinL [32] (stopW s)))).length = sts.length + 2 := by rw [List.length_cons, List.length_cons, List.length_map]
  walk_at "go"
  have l0 : 0 ≤ len := by have := gd.1; omega
  have l1 : len < 1000000000000000 := by have := gd.2.1; omega
  refine ⟨ring, len, (), by rw [hr0]; rfl, l0, l1, fun rt H2 e12 frt hrt => ?_⟩
  have h2s := Evl.ex_l e12 h1s
  have e02 := e1.trans e12
  walk_at "go"
  refine ⟨He.ga K "HOME_WORDS", [wHome, wAt], [home, start], [wHome, num home, wAt, num start], by rw [hr1]; rfl, by have z := (T.t_HOME_WORDS).sq (H := H2); rw [words_home] at z; exact z, hrows.2.1, fun p2 H3 e23 fp2 hp2 => ?_⟩
  have e13 := e12.trans e23
  have e03 := e1.trans e13
  have h3s := Evl.ex_l e13 h1s
  walk_at "go"
  intro p3 hp3
  have ecut : cutV (V.str (S r0) :: V.str (S r1) :: sts.map fun s => V.str (S (joinL [32] (stopW s)))) (some (2 : Int)) none = sts.map fun s => V.str (S (joinL [32] (stopW s))) := cut_from (k := 2) (by rw [hlen]; omega)
  rw [ecut]
  have e34 := Evl.Ex.new (o := .lst (sts.map fun s => V.str (S (joinL [32] (stopW s))))) hp3
  have h4 : (upd H3 p3 (.lst (sts.map fun s => V.str (S (joinL [32] (stopW s)))))) p3 = some (.lst (sts.map fun s => V.str (S (joinL [32] (stopW s))))) := upd_same
  generalize upd H3 p3 (.lst (sts.map fun s => V.str (S (joinL [32] (stopW s))))) = H4 at e34 h4
  have e04 := e03.trans e34
  have lst : (sts.map fun s => V.str (S (joinL [32] (stopW s)))).length = sts.length := List.length_map _
  walk_at "go"
  refine ⟨⟨_, SqL.of h4⟩, fun D hDn => lc_list (K := K) (a := p3) (xs := sts.map fun s => V.str (S (joinL [32] (stopW s)))) (fun i H' => ∃ qs, Ex H4 H' ∧ H' D = some (.lst (qs.map V.ref)) ∧ StopsR K H' qs (sts.take i) ∧ ∀ p ∈ qs, ∃ s, H' p = some (.tup (stopV s))) ⟨[], Evl.Ex.new hDn, upd_same, .nil, fun p hp => (by cases hp)⟩ (fun i H' _ z => ?_) ?_ ?_⟩
  · obtain ⟨_, ex, _⟩ := z
    exact Evl.ex_l ex (SqL.of h4)
  · rintro i y H' hi ⟨qs, ex, hd, hq, hpl⟩
    rw [List.getElem?_map] at hi
    cases hn : sts[i]? with
    | none => rw [hn] at hi; cases hi
    | some s =>
      rw [hn] at hi
      obtain rfl := Option.some.inj hi
      have sm := List.mem_of_getElem? hn
      have il : i < sts.length := by
        obtain ⟨z1, _⟩ := List.getElem?_eq_some_iff.mp hn
        exact z1
      have tk : sts.take (i + 1) = sts.take i ++ [s] := by rw [List.take_succ, hn]; rfl
      have lq : qs.length ≤ 7 := by rw [hq.len, List.length_take]; omega
      rw [tk]
      walk_at "go"
      refine ⟨He.ga K "STOP_WORDS", [wStop, wFrom, wTo, wFor], [s.1, s.2.1, s.2.2.1, s.2.2.2], stopW s, rfl, by have z := (T.t_STOP_WORDS).sq (H := H'); rw [words_stop] at z; exact z, hrows.2.2 s sm, fun p5 H5 e5 fp5 hp5 => ?_⟩
      walk_at "go"
      refine ⟨_, _, rfl, Or.inl ⟨SqL.of hp5, fun p6 hp6 => ?_⟩⟩
      have e56 := Evl.Ex.new (o := .tup (stopV s)) hp6
      have h6 : (upd H5 p6 (.tup (stopV s))) p6 = some (.tup (stopV s)) := upd_same
      have ey := e5.trans e56
      refine ⟨_, ey _ _ hd, Evl.sz_lt (by rw [List.length_map]; omega), qs ++ [p6], Evl.Ex.mut (ex.trans ey) hDn, ?_, StopsR.at_lst (ey _ _ hd) (StopsR.snoc (SqT.of h6) (hq.ex ey)), fun p hp => ?_⟩
      · rw [upd_same, List.map_append]
        rfl
      · rcases List.mem_append.mp hp with hp | hp
        · obtain ⟨s', hs'⟩ := hpl p hp
          exact ⟨s', tup_at_lst (ey _ _ hd) _ _ (ey _ _ hs')⟩
        · rw [List.mem_singleton.mp hp]
          exact ⟨s, tup_at_lst (ey _ _ hd) _ _ h6⟩
  rintro H5 ⟨qs, e5, hD, hq, hpl⟩
  rw [lst, List.take_length] at hq
  have e05 := e04.trans e5
  have hrt5 : SqT K H5 rt (roadV ring len) := Evl.ex_t (((e23.trans e34).trans e5)) (SqT.of hrt)
  walk_at "go"
  intro x dxx hx hdx ne
  have e67 : Ex H5 (upd (upd H5 dxx (.own x)) x (.ins (He.ga K "Day") dxx [])) := (Evl.Ex.new hdx).trans (Evl.Ex.new (by rw [upd_ne (Ne.symm ne)]; exact hx))
  refine ⟨x, dxx, rt, D, wordOf ring, len, home, start, qs, sts, (), rfl, upd_same, Evl.ex_t e67 hrt5, Evl.ex_l e67 (SqL.of hD), hq.ex e67, fun _ l' H7 keep fr hd7 hl' => ⟨rfl, ?_⟩, fun f z => (by rw [gd.flt] at z; cases z)⟩
  have ek : Ex H5 H7 := fun b o hb => keep b o (ne_of_none hb hx) (e67 b o hb)
  have day : DayAt K H7 x rt l' (wordOf ring) len home start qs sts := ⟨⟨dxx, hd7⟩, Evl.ex_t ek hrt5, hl', hq.ex ek⟩
  exact q x rt l' qs H7 (e05.trans ek) (none_of_ex e05 hx) (none_of_ex e05 (none_of_ex e67 fr)) day (((e23.trans e34).trans e5).trans ek _ _ hrt) fun p hp => (let ⟨s, hs⟩ := hpl p hp; ⟨s, ek _ _ hs⟩)
/-! #### least -/
def sp_least (K : PySem.W.Frag) : Sp := fun vs H Q E => ∃ (d o r l : Addr) (ring : Bool) (len home start : Int) (ps : List Addr) (sts : List Stp) (ns : List Int), vs = [.ref d, .ref o] ∧ DayAt K H d r l (wordOf ring) len home start ps sts ∧ SqL K H o (ns.map V.int) ∧ ns.length ≤ 4000 ∧ 0 < len ∧ sts.length ≤ 7 ∧
  (¬ ordOk ns sts.length → ∀ H', Ex H H' → E (.ref (He.ga K "BadOrder")) none H') ∧
  (ordOk ns sts.length → ∀ H', Ex H H' → Q (optV (leastOf ring len sts home start ns)) H')
set_option maxHeartbeats 4000000 in
theorem ok_least (T : Txt K mg D) : FnOk P w K mg base (L2.CX P w) 7 (He.ga K "least") (D "least") ["day", "begun"] (sp_least K) := by
  refine T.F_least.ok sc_least (fun vs H Q E h => ?_) (fun cdv A outer s H vs Q E hr h => ?_)
  · obtain ⟨_, _, _, _, _, _, _, _, _, _, _, rfl, _⟩ := h
    rfl
  obtain ⟨d, o, r, l, ring, len, home, start, ps, sts, ns, rfl, hD, hO, hz, hl0, h7, q1, q2⟩ := h
  refine ⟨_, (pss_cons (ps_set (i := 2) sc_least.nd rfl (Or.inl rfl) (pe_call (ok_not_begun T) (hr.mono (by decide)) rfl T.m_not_begun T.F_not_begun.kp T.b_not_begun .nil pass0 (pa_cons (pv 0) (pa_cons (pv 1) pa_nil))))
    (pss_cons (ps_if (pt_not (pt_truth (pv 2) (by intro _; rfl))) (pss_one (ps_ret (pe_call (ok_tour_end T) hr rfl T.m_tour_end T.F_tour_end.kp T.b_tour_end .nil (passes_call (E := E) (takes_of rfl rfl rfl rfl) (fun _ _ _ _ h => h)) (pa_cons (pv 0) (pa_cons (pv 1) pa_nil))))) pss_nil)
    (pss_cons (ps_set (i := 3) sc_least.nd rfl (Or.inl rfl) (pe_call (ok_table T) hr rfl T.m_table T.F_table.kp T.b_table .nil (passes_call (E := E) (takes_of rfl rfl rfl rfl) (fun _ _ _ _ h => h)) (pa_cons (pv 0) (pa_cons (pv 1) pa_nil))))
    (pss_cons (ps_setLc (i := 4) (own := [("_", 5), ("place", 6), ("leaves", 7)]) (g := gTup K 3 (gCons (gName 5) (gCons (gName 6) (gCons (gName 7) gNil)))) (tt := tYes) rfl sc_least.nd rfl rfl (sw_true rfl rfl rfl (by decide +kernel)) (pi_list (pe_call (ok_ways_on T) (hr.mono (by decide)) rfl T.m_ways_on T.F_ways_on.kp T.b_ways_on .nil pass0 (pa_cons (pv 0) (pa_cons (pv 3) (pa_cons (pv 2) pa_nil))))) (blkOk_by (own := [("_", 5), ("place", 6), ("leaves", 7)]) (N := N_least) (sc := defScope s_least) (by decide +kernel)) (fun _ _ _ _ _ => (pg_tup (n := 3) rfl (pgs_cons (pg_name (i := 5) sc_least.nd rfl (Or.inl rfl)) (pgs_cons (pg_name (i := 6) sc_least.nd rfl (Or.inl rfl)) (pgs_cons (pg_name (i := 7) sc_least.nd rfl (Or.inl rfl)) pgs_nil))) rfl rfl)) (fun _ _ _ _ _ => pts_nil) (fun _ _ _ _ _ => (by refine' pe_eq (t' := ?tt4) (pe_op op_add (pv 7) (pe_call (ok_apart T) (hr.mono (by decide)) rfl T.m_apart T.F_apart.kp T.b_apart .nil pass0 (pa_cons (pe_fld (pv 0) rfl) (pa_cons (pv 6) (pa_cons (pe_fld (pv 0) rfl) pa_nil))))) ?qq4; case qq4 => (first | (dsimp only [L2.Cx.blk]; done) | (dsimp only [L2.Cx.blk]; rfl) | rfl))))
    (pss_one (ps_ret (pe_callBK (call_minD rfl) rfl T.m_min (by decide +kernel) (pa_cons (pv 4) pa_nil) (pk_cons pe_non pk_nil)))))))), ?_⟩
  dsimp only [L2.cxOf, L2.Cx.nox]
  walk_at "go"
  refine ⟨d, o, r, l, wordOf ring, len, home, start, ps, sts, ns, rfl, hD, hO, h7, fun rt H1 e1 frt hrt => ?_⟩
  walk_at "go"
  by_cases c0 : restOf sts.length ns = []
  · refine ⟨false, Or.inr (Or.inl ⟨[], by rw [c0] at hrt; exact SqT.of hrt, rfl⟩), ?_⟩
    walk_at "go"
    refine ⟨d, o, r, l, ring, len, home, start, ps, sts, ns, rfl, hD.ex e1, Evl.ex_l e1 hO, hz, hl0, fun bad H2 e2 => q1 bad _ (e1.trans e2), fun ok no H2 e2 => ?_, fun ok z yes H2 e2 => ?_⟩
    · have qq := q2 ok H2 (e1.trans e2)
      unfold leastOf at qq
      rw [if_pos c0, no] at qq
      exact qq
    · have qq := q2 ok H2 (e1.trans e2)
      unfold leastOf at qq
      rw [if_pos c0, yes] at qq
      exact qq
  · refine ⟨true, Or.inr (Or.inl ⟨_, SqT.of hrt, ?_⟩), ?_⟩
    · cases zz : restOf sts.length ns with
      | nil => exact absurd zz c0
      | cons _ _ => rfl
    have lr := rest_len sts.length ns
    walk_at "go"
    refine ⟨d, o, r, l, ring, len, home, start, ps, sts, ns, rfl, hD.ex e1, Evl.ex_l e1 hO, hz, hl0, h7, fun bad H2 e2 => q1 bad _ (e1.trans e2), fun ok t H2 e2 ft tab2 => ?_⟩
    have e12 := e1.trans e2
    have hrt2 := e2 _ _ hrt
    walk_at "go"
    refine ⟨d, t, rt, r, l, wordOf ring, len, home, start, ps, sts, tableOf ring len sts home start ns, restOf sts.length ns, rfl, hD.ex e12, tab2, hrt2, fun n hn => (rest_mem.mp hn).1, by omega, fun wl qs H3 e3 fwl hwl hq => ?_⟩
    have e13 := e12.trans e3
    generalize hws : waysOf (fun n => (stAt sts n).1) (fun n => look (tableOf ring len sts home start ns) (restOf sts.length ns, n)) (restOf sts.length ns) = ws at hq
    have lw : ws.length ≤ 7 := by
      rw [← hws]
      have h1 : (waysOf (fun n => (stAt sts n).1) (fun n => look (tableOf ring len sts home start ns) (restOf sts.length ns, n)) (restOf sts.length ns)).length ≤ (restOf sts.length ns).length := List.length_filterMap_le _ _
      omega
    have lq : (qs.map V.ref).length = qs.length := List.length_map _
    walk_at "go"
    refine ⟨⟨_, SqL.of hwl⟩, fun L hL => lc_list (K := K) (a := wl) (xs := qs.map V.ref) (fun i H' => Ex H3 H' ∧ H' L = some (.lst (((ws.take i).map fun w => w.2.2 + apartOf ring len w.2.1 home).map V.int))) ⟨Evl.Ex.new hL, upd_same⟩ (fun i H' _ p => SqL.of (p.1 _ _ hwl)) ?_ ?_⟩
    · rintro i y H' hi ⟨e, hd⟩
      obtain ⟨p, hp, rfl⟩ := map_ref_get hi
      obtain ⟨wy, hw, hpt⟩ := hq.get hp
      have hp1 := e _ _ hpt
      have tk : ws.take (i + 1) = ws.take i ++ [wy] := by rw [List.take_succ, hw]; rfl
      have hi7 : i < 7 := by
        obtain ⟨h1, _⟩ := List.getElem?_eq_some_iff.mp hw
        omega
      obtain ⟨⟨dx, k1⟩, k2, k3, k4⟩ := id (hD.ex (e13.trans e))
      walk_at "go"
      refine ⟨d, _, dx, _, _, rfl, k1, T.cl_Day, T.na_Day_road, rfl, ?_⟩
      walk_at "go"
      refine ⟨d, _, dx, _, _, rfl, k1, T.cl_Day, T.na_Day_home, rfl, ?_⟩
      walk_at "go"
      refine ⟨r, ring, len, wy.2.1, home, rfl, k2, hl0, ?_⟩
      walk_at "go"
      refine ⟨_, hd, Evl.sz_lt ?_, Evl.Ex.mut e hL, ?_⟩
      · rw [List.length_map, List.length_map, List.length_take]
        omega
      · rw [upd_same, tk, List.map_append, List.map_append]
        rfl
    rintro H4 ⟨e, hd⟩
    have e14 := e13.trans e
    rw [lq, hq.len, List.take_length] at hd
    have hh : homesOf ring len home sts (tableOf ring len sts home start ns) (restOf sts.length ns) = ws.map fun w => w.2.2 + apartOf ring len w.2.1 home := by
      unfold homesOf
      rw [hws]
    have qq := q2 ok H4 e14
    unfold leastOf at qq
    rw [if_neg c0, hh] at qq
    walk_at "go"
    refine ⟨L, ws.map fun w => w.2.2 + apartOf ring len w.2.1 home, .non, rfl, rfl, SqL.of hd, fun nil => ?_, fun m hm le => ?_⟩
    · rw [nil] at qq
      exact qq
    · rw [minL_is hm le] at qq
      exact qq
/-! #### next_number -/
def sp_next_number (K : PySem.W.Frag) : Sp := fun vs H Q _ => ∃ (d o r l : Addr) (ring : Bool) (len home start e : Int) (ps : List Addr) (sts : List Stp) (os : List Int) (_u : Unit), vs = [.ref d, .ref o, .int e] ∧ DayAt K H d r l (wordOf ring) len home start ps sts ∧ H o = some (.lst (os.map V.int)) ∧ 0 < len ∧ sts.length ≤ 7 ∧ ordOk os sts.length ∧ os.length < sts.length ∧ leastOf ring len sts home start os = some e ∧
  ∀ H', Ex H H' → Q (.int (nextOf ring len home start sts e os)) H'
set_option maxHeartbeats 4000000 in
theorem ok_next_number (T : Txt K mg D) : FnOk P w K mg base CX0 8 (He.ga K "next_number") (D "next_number") ["day", "order", "end"] (sp_next_number K) := by
  refine T.F_next_number.ok sc_next_number (fun vs H Q E h => ?_) (fun cdv A outer s H vs Q E hr h => ?_)
  · obtain ⟨_, _, _, _, _, _, _, _, _, _, _, _, _, rfl, _⟩ := h
    rfl
  obtain ⟨d, o, r, l, ring, len, home, start, e, ps, sts, os, _, rfl, hD, ho, hl0, h7, ok, lt, hle, q⟩ := h
  refine ⟨_, PSs.nox (pss_cons (ps_setLc (i := 3) (own := [("number", 4)]) (g := gName 4) (tt := _) rfl sc_next_number.nd rfl rfl (sw_true rfl rfl rfl (by decide +kernel)) (pi_range1 rfl T.m_range (pa_cons (pe_callB call_len_seq rfl T.m_len PySem.boot_len (pa_cons (pe_fld (pv 0) rfl) pa_nil)) pa_nil)) (blkOk_by (own := [("number", 4)]) (N := N_next_number) (sc := defScope s_next_number) (by decide +kernel)) (fun _ _ _ _ _ => pg_name (i := 4) sc_next_number.nd rfl (Or.inl rfl)) (fun _ _ _ _ _ => (by refine' pts_eq (t' := ?tq8) (pts_one (pt_cmpR op_notIn_seq (pv 4) (pv 1) rfl)) ?qt8; case qt8 => (first | (dsimp only [L2.Cx.blk]; done) | (dsimp only [L2.Cx.blk]; rfl) | rfl))) (fun _ _ _ _ _ => (by refine' pe_eq (t' := ?tt8) (pv 4) ?qq8; case qq8 => (first | (dsimp only [L2.Cx.blk]; done) | (dsimp only [L2.Cx.blk]; rfl) | rfl))))
    (pss_one (ps_ret (pe_callB (cr_min rfl) rfl T.m_min (by decide +kernel) (pa_cons (pe_lc (own := [("number", 4)]) (g := gName 4) (tt := _) rfl sc_next_number.nd (pi_list (pv 3)) (blkOk_by (own := [("number", 4)]) (N := N_next_number) (sc := defScope s_next_number) (by decide +kernel)) (fun _ _ _ _ _ => pg_name (i := 4) sc_next_number.nd rfl (Or.inl rfl)) (fun _ _ _ _ _ => (by refine' pts_eq (t' := ?tq7) (pts_one (pt_cmpR op_eq (pe_call (ok_least T) hr rfl T.m_least T.F_least.kp T.b_least .nil passL (pa_cons (pv 0) (pa_cons (pe_op op_cat (pv 1) (pe_lst (pa_cons (pv 4) pa_nil))) pa_nil))) (pv 2) (nomark _))) ?qt7; case qt7 => (first | (dsimp only [L2.Cx.blk]; done) | (dsimp only [L2.Cx.blk]; rfl) | rfl))) (fun _ _ _ _ _ => (by refine' pe_eq (t' := ?tt7) (pv 4) ?qq7; case qq7 => (first | (dsimp only [L2.Cx.blk]; done) | (dsimp only [L2.Cx.blk]; rfl) | rfl)))) pa_nil))))), ?_⟩
  dsimp only [L2.cxOf, L2.Cx.nox]
  have hO : SqL K H o (os.map V.int) := SqL.of ho
  obtain ⟨⟨dx, k1⟩, k2, k3, k4⟩ := id hD
  have lps : (ps.map V.ref).length = sts.length := by rw [List.length_map]; exact k4.len
  walk_at "go"
  refine ⟨d, _, dx, _, _, rfl, k1, T.cl_Day, T.na_Day_stops, rfl, ?_⟩
  walk_at "go"
  intro L hL
  refine lc_range (lo := 0) (n := (ps.map V.ref).length) (fun i H' => Ex H H' ∧ H' L = some (.lst ((restOf i os).map V.int))) ⟨Evl.Ex.new hL, upd_same⟩ ?_ ?_
  · rintro i H' hi ⟨ex, hd⟩
    have hO' := Evl.ex_l ex hO
    walk_at "go"
    refine ⟨flat_ints os, ?_⟩
    walk_at "go"
    rw [inV_ints]
    refine iteB (fun c => ?_) (fun c => ?_)
    · have c1 : decide ((i : Int) ∈ os) = false := by
        cases z : decide ((i : Int) ∈ os) with
        | false => rfl
        | true => rw [Int.zero_add, z] at c; cases c
      walk_at "go"
      refine ⟨_, hd, Evl.sz_lt ?_, Evl.Ex.mut ex hL, ?_⟩
      · rw [List.length_map]
        have := rest_len i os
        omega
      · rw [upd_same, rest_step, c1, List.map_append, Int.zero_add]
        rfl
    · have c1 : decide ((i : Int) ∈ os) = true := by
        cases z : decide ((i : Int) ∈ os) with
        | true => rfl
        | false => rw [Int.zero_add, z] at c; cases c
      refine ⟨ex, ?_⟩
      rw [rest_step, c1, if_pos rfl, List.append_nil]
      exact hd
  rintro H1 ⟨e1, hL1⟩
  rw [lps] at hL1
  have lr := rest_len sts.length os
  have lrv : ((restOf sts.length os).map V.int).length = (restOf sts.length os).length := List.length_map _
  have hL1s : SqL K H1 L ((restOf sts.length os).map V.int) := SqL.of hL1
  walk_at "go"
  refine ⟨⟨_, hL1s⟩, fun D hD2 => lc_list (K := K) (a := L) (xs := (restOf sts.length os).map V.int) (fun i H' => Ex H1 H' ∧ H' D = some (.lst ((((restOf sts.length os).take i).filter fun n => decide (leastOf ring len sts home start (os ++ [n]) = some e)).map V.int))) ⟨Evl.Ex.new hD2, upd_same⟩ (fun i H' _ p => Evl.ex_l p.1 hL1s) ?_ ?_⟩
  · rintro i y H' hi ⟨ex, hd⟩
    obtain ⟨n, hn, rfl⟩ := map_int_get hi
    have nm : n ∈ restOf sts.length os := List.mem_of_getElem? hn
    have e1' := e1.trans ex
    have ho' := e1' _ _ ho
    walk_at "go"
    intro p hp
    have ep := Evl.Ex.new (o := .lst [.int n]) hp
    have hpp : (upd H' p (.lst [.int n])) p = some (.lst [.int n]) := upd_same
    have hop := ep _ _ ho'
    have hdp := ep _ _ hd
    generalize upd H' p (.lst [.int n]) = H2 at ep hpp hop hdp
    walk_at "go"
    refine ⟨Evl.sz_of (by rw [List.length_map, List.length_singleton]; omega), fun r2 hr2 => ?_⟩
    have ep2 := Evl.Ex.new (o := .lst (os.map V.int ++ [.int n])) hr2
    have hrr : (upd H2 r2 (.lst (os.map V.int ++ [.int n]))) r2 = some (.lst ((os ++ [n]).map V.int)) := by rw [upd_same, List.map_append]; rfl
    have hdp2 := ep2 _ _ hdp
    generalize upd H2 r2 (.lst (os.map V.int ++ [.int n])) = H3 at ep2 hrr hdp2
    have e13 := (e1'.trans ep).trans ep2
    walk_at "go"
    refine ⟨d, r2, r, l, ring, len, home, start, ps, sts, os ++ [n], rfl, hD.ex e13, SqL.of hrr, by rw [List.length_append, List.length_singleton]; omega, hl0, h7, fun bad => absurd (ordOk_snoc ok nm) bad, fun _ H4 e34 => ?_⟩
    have ex4 := ((ex.trans ep).trans ep2).trans e34
    have hd4 := e34 _ _ hdp2
    have so : (((restOf sts.length os).take (i + 1)).filter fun n => decide (leastOf ring len sts home start (os ++ [n]) = some e)) = (((restOf sts.length os).take i).filter fun n => decide (leastOf ring len sts home start (os ++ [n]) = some e)) ++ (if leastOf ring len sts home start (os ++ [n]) = some e then [n] else []) := by
      rw [List.take_succ, hn, List.filter_append]
      congr 1
      by_cases c : leastOf ring len sts home start (os ++ [n]) = some e <;> simp [c]
    walk_at "go"
    refine ⟨scal_opt _ _, ?_⟩
    rw [dec_opt]
    walk_at "go"
    refine iteB (fun c => ?_) (fun c => ?_)
    · have c1 := of_decide_eq_true c
      rw [so, if_pos c1]
      walk_at "go"
      refine ⟨_, hd4, Evl.sz_lt ?_, Evl.Ex.mut ex4 hD2, ?_⟩
      · rw [List.length_map]
        have h1 := List.length_filter_le (fun n => decide (leastOf ring len sts home start (os ++ [n]) = some e)) ((restOf sts.length os).take i)
        rw [List.length_take] at h1
        omega
      · rw [upd_same, List.map_append]
        rfl
    · have c1 := of_decide_eq_false c
      rw [so, if_neg c1, List.append_nil]
      exact ⟨ex4, hd4⟩
  rintro H2 ⟨e2, hD3⟩
  rw [lrv, List.take_length] at hD3
  obtain ⟨nk, nl⟩ := next_ok ring len home start sts ok hle lt
  have pos : 0 < (keepsOf ring len home start sts e os).length := List.length_pos_of_mem nk
  walk_at "go"
  intro m hm le
  have em : m = nextOf ring len home start sts e os := by
    have a := le _ nk
    have b := nl m hm
    omega
  rw [em]
  walk_at "go"
  exact q _ (e1.trans e2)
/-! #### has_tour -/
def sp_has_tour (K : PySem.W.Frag) : Sp := fun vs H Q _ => ∃ (d k r l : Addr) (ring : Bool) (len home start : Int) (ps : List Addr) (sts : List Stp) (ks : List Int) (_u : Unit), vs = [.ref d, .ref k] ∧ DayAt K H d r l (wordOf ring) len home start ps sts ∧ SqL K H k (ks.map V.int) ∧ GoodDay ring len home start sts ∧ (∀ n ∈ ks, 0 ≤ n ∧ n < sts.length) ∧ ks.length ≤ 7 ∧
  ∀ H', Ex H H' → Q (.bl (hasOf ring len home start sts ks)) H'
set_option maxHeartbeats 4000000 in
theorem ok_has_tour (T : Txt K mg D) : FnOk P w K mg base CX0 8 (He.ga K "has_tour") (D "has_tour") ["day", "kept"] (sp_has_tour K) := by
  refine T.F_has_tour.ok sc_has_tour (fun vs H Q E h => ?_) (fun cdv A outer s H vs Q E hr h => ?_)
  · obtain ⟨_, _, _, _, _, _, _, _, _, _, _, _, rfl, _⟩ := h
    rfl
  obtain ⟨d, k, r, l, ring, len, home, start, ps, sts, ks, _, rfl, hD, hK, gd, hv, h7, q⟩ := h
  refine ⟨_, PSs.nox (pss_cons (ps_setLc (i := 2) (own := [("number", 3)]) (g := gName 3) (tt := tYes) rfl sc_has_tour.nd rfl rfl (sw_true rfl rfl rfl (by decide +kernel)) (pi_list (pv 1)) (blkOk_by (own := [("number", 3)]) (N := N_has_tour) (sc := defScope s_has_tour) (by decide +kernel)) (fun _ _ _ _ _ => pg_name (i := 3) sc_has_tour.nd rfl (Or.inl rfl)) (fun _ _ _ _ _ => pts_nil) (fun _ _ _ _ _ => (by refine' pe_eq (t' := ?tt9) (pe_ix ix_list (pe_fld (pv 0) rfl) (pv 3) (fun _ _ => rfl)) ?qq9; case qq9 => (first | (dsimp only [L2.Cx.blk]; done) | (dsimp only [L2.Cx.blk]; rfl) | rfl))))
    (pss_one (ps_ret (pe_cmpR op_notN1 (pe_call (ok_least T) hr rfl T.m_least T.F_least.kp T.b_least .nil passL (pa_cons (pe_make T.k_Day (ok_Day___init T) (hr.mono (by decide)) rfl T.m_Day T.b_Day___init .nil passL (pa_cons (pe_fld (pv 0) rfl) (pa_cons (pe_fld (pv 0) rfl) (pa_cons (pe_fld (pv 0) rfl) (pa_cons (pv 2) pa_nil))))) (pa_cons (pe_lst pa_nil) pa_nil))) pe_non (nomark _))))), ?_⟩
  dsimp only [L2.cxOf, L2.Cx.nox]
  have lks : (ks.map V.int).length = ks.length := List.length_map _
  have hl0 : 0 < len := by have := gd.1; omega
  walk_at "go"
  refine ⟨⟨_, hK⟩, fun D hDn => lc_list (K := K) (a := k) (xs := ks.map V.int) (fun i H' => ∃ qs, Ex H H' ∧ H' D = some (.lst (qs.map V.ref)) ∧ StopsR K H' qs (subOf sts (ks.take i))) ⟨[], Evl.Ex.new hDn, upd_same, .nil⟩ (fun i H' _ p => ?_) ?_ ?_⟩
  · obtain ⟨_, ex, _⟩ := p
    exact Evl.ex_l ex hK
  · rintro i y H' hi ⟨qs, ex, hd, hq⟩
    obtain ⟨n, hn, rfl⟩ := map_int_get hi
    obtain ⟨n0, n1⟩ := hv n (List.mem_of_getElem? hn)
    obtain ⟨⟨dx, k1⟩, k2, k3, k4⟩ := id (hD.ex ex)
    obtain ⟨q5, hq5, hT5⟩ := stop_val k4 n0 n1
    have so : subOf sts (ks.take (i + 1)) = subOf sts (ks.take i) ++ [stAt sts n] := by
      unfold subOf
      rw [List.take_succ, hn, List.map_append]
      rfl
    rw [so]
    have il : i < ks.length := by
      obtain ⟨h1, _⟩ := List.getElem?_eq_some_iff.mp hn
      exact h1
    have lq : qs.length = i := by
      rw [hq.len]
      unfold subOf
      rw [List.length_map, List.length_take]
      omega
    walk_at "go"
    refine ⟨d, _, dx, _, _, rfl, k1, T.cl_Day, T.na_Day_stops, rfl, ?_⟩
    walk_at "go"
    refine ⟨_, hd, Evl.sz_lt (by rw [List.length_map]; omega), qs ++ [q5], Evl.Ex.mut ex hDn, ?_, StopsR.at_lst hd (StopsR.snoc hT5 hq)⟩
    rw [upd_same, List.map_append]
    rfl
  rintro H1 ⟨qs, e1, hd, hq⟩
  rw [lks, List.take_length] at hq
  obtain ⟨⟨dx, k1⟩, k2, k3, k4⟩ := id (hD.ex e1)
  walk_at "go"
  refine ⟨d, _, dx, _, _, rfl, k1, T.cl_Day, T.na_Day_road, rfl, ?_⟩
  walk_at "go"
  refine ⟨d, _, dx, _, _, rfl, k1, T.cl_Day, T.na_Day_home, rfl, ?_⟩
  walk_at "go"
  refine ⟨d, _, dx, _, _, rfl, k1, T.cl_Day, T.na_Day_start, rfl, ?_⟩
  walk_at "go"
  intro x dxx hx hdx ne
  have e67 : Ex H1 (upd (upd H1 dxx (.own x)) x (.ins (He.ga K "Day") dxx [])) := (Evl.Ex.new hdx).trans (Evl.Ex.new (by rw [upd_ne (Ne.symm ne)]; exact hx))
  have gs := gd.sub hv h7
  refine ⟨x, dxx, r, D, wordOf ring, len, home, start, qs, subOf sts ks, (), rfl, upd_same, Evl.ex_t e67 k2, Evl.ex_l e67 (SqL.of hd), hq.ex e67, fun _ l' H7 keep fr hd7 hl' => ⟨rfl, ?_⟩, fun f z => (by rw [gs.flt] at z; cases z)⟩
  have ek : Ex H1 H7 := fun b o hb => keep b o (ne_of_none hb hx) (e67 b o hb)
  have day : DayAt K H7 x r l' (wordOf ring) len home start qs (subOf sts ks) := ⟨⟨dxx, hd7⟩, Evl.ex_t ek k2, hl', hq.ex ek⟩
  clear keep hl' hd7
  walk_at "go"
  intro p hp
  have ep := Evl.Ex.new (o := .lst []) hp
  have hpp : (upd H7 p (.lst [])) p = some (.lst []) := upd_same
  generalize upd H7 p (.lst []) = H8 at ep hpp
  walk_at "go"
  refine ⟨x, p, r, l', ring, len, home, start, qs, subOf sts ks, [], rfl, day.ex ep, SqL.of hpp, by decide, hl0, gs.2.2.2.2.2, fun bad => absurd (ordOk_nil _) bad, fun _ H9 e89 => ?_⟩
  walk_at "go"
  rw [notnone_opt]
  exact q _ (((e1.trans ek).trans ep).trans e89)
/-! #### _law_driven -/
theorem end_is14 {ring : Bool} {len home start : Int} {sts : List Stp} {ns : List Int} {rs : List Row} {z : Int × Int} (h : 0 < len) (hrs : rowsOf ring len sts home start ns = some rs) (hz : behindOf ring len sts home start ns = some z) : endOf ring len sts home start ns rs = z.2 + apartOf ring len z.1 home := by
  have rl := rows_len hrs
  rcases split_last ns with rfl | ⟨ns', n, rfl⟩
  · obtain rfl : rs = [] := List.eq_nil_of_length_eq_zero rl
    have e : (home, start) = z := Option.some.inj hz
    rw [← e]
    show start = start + apartOf ring len home home
    rw [apart_self h, Int.add_zero]
  · rcases split_last rs with rfl | ⟨rs', x, rfl⟩
    · rw [List.length_append] at rl; simp at rl
    have e := Option.some.inj ((behind_last hrs).symm.trans hz)
    rw [end_snoc, ← e]
def sp_law_driven (P : Program) (W : World) (K : PySem.W.Frag) : Sp := fun vs H Q _ => ∃ (d o r l : Addr) (ring : Bool) (len home start k : Int) (ps : List Addr) (sts : List Stp) (ns : List Int) (_u : Unit), vs = [.ref d, .ref o, .int k] ∧ DayAt K H d r l (wordOf ring) len home start ps sts ∧ SqL K H o (ns.map V.int) ∧ ns.length ≤ 4000 ∧ GoodDay ring len home start sts ∧ 0 ≤ k ∧ k ≤ 3 ∧
  ∀ v H', Ex H H' → AnsR P W (fun p => H p = none) H' v (ansOf ring len home start sts ns k) → Q v H'
set_option maxHeartbeats 4000000 in
theorem ok_law_driven (T : Txt K mg D) : FnOk P w K mg base CX0 8 (He.ga K "_law_driven") (D "_law_driven") ["_law_day", "_law_order_here", "_law_kind"] (sp_law_driven P w K) := by
  refine T.F_law_driven.ok sc_law_driven (fun vs H Q E h => ?_) (fun cdv A outer s H vs Q E hr h => ?_)
  · obtain ⟨_, _, _, _, _, _, _, _, _, _, _, _, _, rfl, _⟩ := h
    rfl
  obtain ⟨d, o, r, l, ring, len, home, start, k, ps, sts, ns, _, rfl, hD, hO, hz, gd, k0, k3, q⟩ := h
  refine ⟨_, PSs.nox (pss_one (ps_try_many (Wout := fun _ _ _ _ => False) rfl rfl takes0
      (fun W pn xe tk po => (by refine pss_eq (pss_cons (ps_if (pt_cmpR op_eq (pv 2) pe_int (nomark _)) (pss_one (ps_ret (pe_callS (ok_timetable T) (hr.mono (by decide)) rfl T.m_timetable T.F_timetable.kp T.b_timetable (fun σ => passAt tk σ) (by exact (pa_cons (pv 0) (pa_cons (pv 1) pa_nil)))))) pss_nil) (pss_cons (ps_if (pt_cmpR op_eq (pv 2) pe_int (nomark _)) (pss_one (ps_ret (pe_callS (ok_ends T) (hr.mono (by decide)) rfl T.m_ends T.F_ends.kp T.b_ends (fun σ => passAt tk σ) (by exact (pa_cons (pv 0) (pa_cons (pv 1) pa_nil)))))) pss_nil) (pss_cons (ps_if (pt_cmpR op_eq (pv 2) pe_int (nomark _)) (pss_one (ps_ret (pe_callS (ok_table T) (hr.mono (by decide)) rfl T.m_table T.F_table.kp T.b_table (fun σ => passAt tk σ) (by exact (pa_cons (pv 0) (pa_cons (pv 1) pa_nil)))))) pss_nil) (pss_one (ps_ret (pe_callS (ok_least T) hr rfl T.m_least T.F_least.kp T.b_least (fun σ => passAt tk σ) (by exact (pa_cons (pv 0) (pa_cons (pv 1) pa_nil))))))))) ?_; first | (dsimp only [L2.Cx.suite, L2.Cx.tr]; done) | (dsimp only [L2.Cx.suite, L2.Cx.tr]; rfl) | rfl))
      (HdsOk.cons ⟨rfl, by decide, Or.inl T.m_Missed⟩ (fun a oe cls d pn _ _ => (by refine pss_eq (pss_one (ps_ret (pe_tup (pa_cons pe_str pa_nil)))) ?_; first | (dsimp only [L2.Cx.suite, L2.Cx.tr]; done) | (dsimp only [L2.Cx.suite, L2.Cx.tr]; rfl) | rfl))
      (HdsOk.cons ⟨rfl, by decide, Or.inl T.m_BadOrder⟩ (fun a oe cls d pn _ _ => (by refine pss_eq (pss_one (ps_ret (pe_tup (pa_cons pe_str pa_nil)))) ?_; first | (dsimp only [L2.Cx.suite, L2.Cx.tr]; done) | (dsimp only [L2.Cx.suite, L2.Cx.tr]; rfl) | rfl))
      .nil)))), ?_⟩
  have hl0 : 0 < len := by have := gd.1; omega
  have h7 : sts.length ≤ 7 := gd.2.2.2.2.2
  have badA : ∀ H1 : Hp, Ex H H1 → ¬ ordOk ns sts.length → ∀ p, H1 p = none → Q (.ref p) (upd H1 p (.tup [.str "order"])) := fun H1 e1 bad p hp => by
    refine q (.ref p) _ (e1.trans (Evl.Ex.new hp)) ?_
    have ea : ansOf ring len home start sts ns k = .err "order" := by
      unfold ansOf
      by_cases c0 : k = 0
      · rw [if_pos c0, errOr_bad bad]
      rw [if_neg c0]
      by_cases c1 : k = 1
      · rw [if_pos c1, errOr_bad bad]
      rw [if_neg c1]
      by_cases c2 : k = 2
      · rw [if_pos c2, errOr_bad bad]
      rw [if_neg c2, if_pos (by omega), errOr_bad bad]
    rw [ea]
    exact ⟨.inr rfl, p, rfl, upd_same⟩
  have missA : ∀ H1 : Hp, Ex H H1 → ordOk ns sts.length → rowsOf ring len sts home start ns = none → k ≤ 1 → ∀ p, H1 p = none → Q (.ref p) (upd H1 p (.tup [.str "missed"])) := fun H1 e1 ok no k1 p hp => by
    refine q (.ref p) _ (e1.trans (Evl.Ex.new hp)) ?_
    have ea : ansOf ring len home start sts ns k = .err "missed" := by
      unfold ansOf
      by_cases c0 : k = 0
      · rw [if_pos c0, errOr_ok ok, no]
      rw [if_neg c0, if_pos (by omega), errOr_ok ok, no]
    rw [ea]
    exact ⟨.inl rfl, p, rfl, upd_same⟩
  walk_at "go"
  refine iteB (fun c => ?_) (fun c => ?_)
  · have ck : k = 0 := V.int.inj (odt c)
    walk_at "go"
    refine ⟨d, o, r, l, ring, len, home, start, ps, sts, ns, rfl, hD, hO, hz, hl0, fun bad H1 e1 => ?_, fun ok no H1 e1 => ?_, fun ok rs hrs l' qs H1 e1 fr hl hq => ?_⟩
    · refine ⟨false, T.e_BadOrder_Missed, fun y => Bool.noConfusion y, fun _ => ⟨true, T.e_BadOrder_BadOrder, fun _ a ha => ?_, fun y => Bool.noConfusion y⟩⟩
      walk_at "go"
      exact badA H1 e1 bad
    · refine ⟨true, T.e_Missed_Missed, fun _ a ha => ?_, fun y => Bool.noConfusion y⟩
      walk_at "go"
      exact missA H1 e1 ok no (by omega)
    · refine q (.ref l') H1 e1 ?_
      have ea : ansOf ring len home start sts ns k = .rows rs := by unfold ansOf; rw [if_pos ck, errOr_ok ok, hrs]
      rw [ea]
      exact ⟨l', qs, rfl, fr, hl, hq⟩
  have nk0 : k ≠ 0 := fun z => odf c (congrArg V.int z)
  walk_at "go"
  refine iteB (fun c => ?_) (fun c => ?_)
  · have ck : k = 1 := V.int.inj (odt c)
    walk_at "go"
    refine ⟨d, o, r, l, ring, len, home, start, ps, sts, ns, rfl, hD, hO, hz, hl0, fun bad H1 e1 => ?_, fun ok no H1 e1 => ?_, fun ok rs hrs H1 e1 => ?_⟩
    · refine ⟨false, T.e_BadOrder_Missed, fun y => Bool.noConfusion y, fun _ => ⟨true, T.e_BadOrder_BadOrder, fun _ a ha => ?_, fun y => Bool.noConfusion y⟩⟩
      walk_at "go"
      exact badA H1 e1 bad
    · refine ⟨true, T.e_Missed_Missed, fun _ a ha => ?_, fun y => Bool.noConfusion y⟩
      walk_at "go"
      exact missA H1 e1 ok no (by omega)
    · refine q _ H1 e1 ?_
      have hb : ∃ z, behindOf ring len sts home start ns = some z := by
        rcases split_last ns with rfl | ⟨ns', n, rfl⟩
        · exact ⟨_, rfl⟩
        · rcases split_last rs with rfl | ⟨rs', x, rfl⟩
          · have := rows_len hrs; rw [List.length_append] at this; simp at this
          · exact ⟨_, behind_last hrs⟩
      obtain ⟨z, hb⟩ := hb
      have ea : ansOf ring len home start sts ns k = .num (some (z.2 + apartOf ring len z.1 home)) := by unfold ansOf; rw [if_neg nk0, if_pos ck, errOr_ok ok, hrs, hb]; rfl
      rw [ea, end_is14 hl0 hrs hb]
      exact (rfl : V.int _ = optV (some _))
  have nk1 : k ≠ 1 := fun z => odf c (congrArg V.int z)
  walk_at "go"
  refine iteB (fun c => ?_) (fun c => ?_)
  · have ck : k = 2 := V.int.inj (odt c)
    walk_at "go"
    refine ⟨d, o, r, l, ring, len, home, start, ps, sts, ns, rfl, hD, hO, hz, hl0, h7, fun bad H1 e1 => ?_, fun ok t H1 e1 ft tab => ?_⟩
    · refine ⟨false, T.e_BadOrder_Missed, fun y => Bool.noConfusion y, fun _ => ⟨true, T.e_BadOrder_BadOrder, fun _ a ha => ?_, fun y => Bool.noConfusion y⟩⟩
      walk_at "go"
      exact badA H1 e1 bad
    · refine q _ H1 e1 ?_
      have ea : ansOf ring len home start sts ns k = .tab (tableOf ring len sts home start ns) := by unfold ansOf; rw [if_neg nk0, if_neg nk1, if_pos ck, errOr_ok ok]
      rw [ea]
      exact ⟨t, rfl, ft, tab⟩
  have nk2 : k ≠ 2 := fun z => odf c (congrArg V.int z)
  walk_at "go"
  refine ⟨d, o, r, l, ring, len, home, start, ps, sts, ns, rfl, hD, hO, hz, hl0, h7, fun bad H1 e1 => ?_, fun ok H1 e1 => ?_⟩
  · refine ⟨false, T.e_BadOrder_Missed, fun y => Bool.noConfusion y, fun _ => ⟨true, T.e_BadOrder_BadOrder, fun _ a ha => ?_, fun y => Bool.noConfusion y⟩⟩
    walk_at "go"
    exact badA H1 e1 bad
  · refine q _ H1 e1 ?_
    have ea : ansOf ring len home start sts ns k = .num (leastOf ring len sts home start ns) := by unfold ansOf; rw [if_neg nk0, if_neg nk1, if_neg nk2, if_pos (show k = 3 by omega), errOr_ok ok]
    rw [ea]
    exact (rfl : optV _ = optV _)
/-! #### best -/
def sp_best (K : PySem.W.Frag) : Sp := fun vs H Q _ => ∃ (d r l : Addr) (ring : Bool) (len home start : Int) (ps : List Addr) (sts : List Stp), vs = [.ref d] ∧ DayAt K H d r l (wordOf ring) len home start ps sts ∧ 0 < len ∧ sts.length ≤ 7 ∧
  (bestOf ring len home start sts = none → ∀ H', Ex H H' → Q .non H') ∧
  (∀ os, bestOf ring len home start sts = some os → ∀ p H', Ex H H' → H p = none → H' p = some (.lst (os.map V.int)) → Q (.ref p) H')
set_option maxHeartbeats 4000000 in
theorem ok_best (T : Txt K mg D) : FnOk P w K mg base CX0 9 (He.ga K "best") (D "best") ["day"] (sp_best K) := by
  refine T.F_best.ok sc_best (fun vs H Q E h => ?_) (fun cdv A outer s H vs Q E hr h => ?_)
  · obtain ⟨_, _, _, _, _, _, _, _, _, rfl, _⟩ := h
    rfl
  obtain ⟨d, r, l, ring, len, home, start, ps, sts, rfl, hD, hl0, h7, q1, q2⟩ := h
  refine ⟨_, PSs.nox (pss_cons (ps_set (i := 1) sc_best.nd rfl (Or.inl rfl) (pe_call (ok_least T) (hr.mono (by decide)) rfl T.m_least T.F_least.kp T.b_least .nil passL (pa_cons (pv 0) (pa_cons (pe_lst pa_nil) pa_nil))))
    (pss_cons (ps_if (pt_cmpR op_isN1 (pv 1) pe_non (nomark _)) (pss_one (ps_ret pe_non)) pss_nil)
    (pss_cons (ps_set (i := 2) sc_best.nd rfl (Or.inl rfl) (pe_lst pa_nil))
    (pss_cons (ps_for PassesOwn.never rfl (pi_list (pe_fld (pv 0) rfl)) (pg_name (i := 3) sc_best.nd rfl (Or.inl rfl))
      (pss_one (ps_expr (pe_bm PySem.F.plainAttrs_list PySem.F.slot_list_append PySem.F.type_list_append mt_append (pv 2) (pa_cons (pe_call (ok_next_number T) hr rfl T.m_next_number T.F_next_number.kp T.b_next_number .nil pass0 (pa_cons (pv 0) (pa_cons (pv 2) (pa_cons (pv 1) pa_nil)))) pa_nil)))))
    (pss_one (ps_ret (pv 2))))))), ?_⟩
  dsimp only [L2.cxOf, L2.Cx.nox]
  walk_at "go"
  intro p0 hp0
  have e1 := Evl.Ex.new (o := .lst []) hp0
  have hp1 : (upd H p0 (.lst [])) p0 = some (.lst []) := upd_same
  generalize upd H p0 (.lst []) = H1 at e1 hp1
  walk_at "go"
  refine ⟨d, p0, r, l, ring, len, home, start, ps, sts, [], rfl, hD.ex e1, SqL.of hp1, by decide, hl0, h7, fun bad => absurd (ordOk_nil _) bad, fun _ H2 e2 => ?_⟩
  have e12 := e1.trans e2
  cases hle : leastOf ring len sts home start [] with
  | none =>
    walk_at "go"
    exact q1 (best_none ring len home start sts hle) H2 e12
  | some e =>
    walk_at "go"
    intro L hL
    have eL := Evl.Ex.new (o := .lst []) hL
    have hL3 : (upd H2 L (.lst [])) L = some (.lst ((bestGo ring len home start sts e 0).map V.int)) := upd_same
    generalize upd H2 L (.lst []) = H3 at eL hL3
    have hD2 := hD.ex e12
    obtain ⟨⟨dx, k1⟩, k2, k3, k4⟩ := id (hD2.ex eL)
    have lps : (ps.map V.ref).length = sts.length := by rw [List.length_map]; exact k4.len
    have k3' : SqL K H2 l (ps.map V.ref) := SqL.of hD2.2.2.1
    walk_at "go"
    refine ⟨d, _, dx, _, _, rfl, k1, T.cl_Day, T.na_Day_stops, rfl, ?_⟩
    walk_at "go"
    refine ⟨⟨_, SqL.of k3⟩, for_list (K := K) (a := l) (xs := ps.map V.ref) (fun i σ H' => ∃ x : Option V, σ = [some (.ref d), some (.int e), some (.ref L), x] ∧ Ex H2 H' ∧ H' L = some (.lst ((bestGo ring len home start sts e i).map V.int))) ⟨_, rfl, eL, hL3⟩ (fun i σ H' _ p => ?_) ?_ ?_⟩
    · obtain ⟨_, _, ex, _⟩ := p
      exact Evl.ex_l ex k3'
    · rintro i y σ H4 hi ⟨x, rfl, ex, hL4⟩
      obtain ⟨hi1, _⟩ := List.getElem?_eq_some_iff.mp hi
      obtain ⟨a, b, c⟩ := best_go ring len home start sts hle i (by omega)
      walk_at "go"
      refine ⟨Or.inl ⟨rfl, _, SqL.of hL4⟩, ?_⟩
      walk_at "go"
      refine ⟨d, L, r, l, ring, len, home, start, e, ps, sts, _, (), rfl, hD2.ex ex, hL4, hl0, h7, a, by omega, c, fun H5 e45 => ?_⟩
      refine ⟨L, _, _, rfl, rfl, e45 _ _ hL4, Evl.sz_lt (by rw [List.length_map]; omega), ?_⟩
      refine ⟨_, rfl, Evl.Ex.mut (ex.trans e45) hL, ?_⟩
      rw [upd_same, bestGo, List.map_append]
      rfl
    · rintro σ H4 ⟨x, rfl, ex, hL4⟩
      rw [lps] at hL4
      walk_at "go"
      exact q2 _ (best_some ring len home start sts hle) L H4 (e12.trans ex) (none_of_ex e12 hL) hL4
/-! #### clash -/
def sp_clash (K : PySem.W.Frag) : Sp := fun vs H Q _ => ∃ (d r l : Addr) (ring : Bool) (len home start : Int) (ps : List Addr) (sts : List Stp) (_u : Unit), vs = [.ref d] ∧ DayAt K H d r l (wordOf ring) len home start ps sts ∧ GoodDay ring len home start sts ∧
  (clashOf ring len home start sts = none → ∀ H', Ex H H' → Q .non H') ∧
  (∀ ks, clashOf ring len home start sts = some ks → ∀ p H', Ex H H' → H p = none → H' p = some (.tup (ks.map V.int)) → Q (.ref p) H')
set_option maxHeartbeats 4000000 in
theorem ok_clash (T : Txt K mg D) : FnOk P w K mg base CX0 9 (He.ga K "clash") (D "clash") ["day"] (sp_clash K) := by
  refine T.F_clash.ok sc_clash (fun vs H Q E h => ?_) (fun cdv A outer s H vs Q E hr h => ?_)
  · obtain ⟨_, _, _, _, _, _, _, _, _, _, rfl, _⟩ := h
    rfl
  obtain ⟨d, r, l, ring, len, home, start, ps, sts, _, rfl, hD, gd, q1, q2⟩ := h
  refine ⟨_, PSs.nox (pss_cons (ps_set (i := 1) sc_clash.nd rfl (Or.inl rfl) (pe_listRg rfl rfl T.m_list (prg_1 rfl T.m_range (pe_callB call_len_seq rfl T.m_len PySem.boot_len (pa_cons (pe_fld (pv 0) rfl) pa_nil)))))
    (pss_cons (ps_if (pt_val (pe_call (ok_has_tour T) hr rfl T.m_has_tour T.F_has_tour.kp T.b_has_tour .nil pass0 (pa_cons (pv 0) (pa_cons (pv 1) pa_nil)))) (pss_one (ps_ret pe_non)) pss_nil)
    (pss_cons (ps_for PassesOwn.never rfl (pi_revR rfl T.m_reversed (prg_1 rfl T.m_range (pe_callB call_len_seq rfl T.m_len PySem.boot_len (pa_cons (pe_fld (pv 0) rfl) pa_nil)))) (pg_name (i := 2) sc_clash.nd rfl (Or.inr rfl))
      (pss_cons (ps_setLc (i := 3) (own := [("other", 4)]) (g := gName 4) (tt := _) rfl sc_clash.nd rfl rfl (sw_true rfl rfl rfl (by decide +kernel)) (pi_list (pv 1)) (blkOk_by (own := [("other", 4)]) (N := N_clash) (sc := defScope s_clash) (by decide +kernel)) (fun _ _ _ _ _ => pg_name (i := 4) sc_clash.nd rfl (Or.inl rfl)) (fun _ _ _ _ _ => (by refine' pts_eq (t' := ?tq10) (pts_one (pt_cmpR op_ne (pv 4) (pv 2) (nomark _))) ?qt10; case qt10 => (first | (dsimp only [L2.Cx.blk]; done) | (dsimp only [L2.Cx.blk]; rfl) | rfl))) (fun _ _ _ _ _ => (by refine' pe_eq (t' := ?tt10) (pv 4) ?qq10; case qq10 => (first | (dsimp only [L2.Cx.blk]; done) | (dsimp only [L2.Cx.blk]; rfl) | rfl))))
      (pss_one (ps_if (pt_not (pt_val (pe_call (ok_has_tour T) hr rfl T.m_has_tour T.F_has_tour.kp T.b_has_tour .nil pass0 (pa_cons (pv 0) (pa_cons (pv 3) pa_nil))))) (pss_one (ps_set (i := 1) sc_clash.nd rfl (Or.inl rfl) (pv 3))) pss_nil))))
    (pss_one (ps_ret (pe_callTy call_tuple_of rfl T.m_tuple (by decide +kernel) (pa_cons (pv 1) pa_nil))))))), ?_⟩
  dsimp only [L2.cxOf, L2.Cx.nox]
  obtain ⟨⟨dx, k1⟩, k2, k3, k4⟩ := id hD
  have lps : (ps.map V.ref).length = sts.length := by rw [List.length_map]; exact k4.len
  have h7 : sts.length ≤ 7 := gd.2.2.2.2.2
  walk_at "go"
  refine ⟨d, _, dx, _, _, rfl, k1, T.cl_Day, T.na_Day_stops, rfl, ?_⟩
  walk_at "go"
  intro k0 hk0
  have e0 := Evl.Ex.new (o := .lst (rgV 0 ((ps.map V.ref).length : Nat))) hk0
  have hk1 : (upd H k0 (.lst (rgV 0 ((ps.map V.ref).length : Nat)))) k0 = some (.lst ((allOf sts.length).map V.int)) := by rw [upd_same, lps, rg_all]
  generalize upd H k0 (.lst (rgV 0 ((ps.map V.ref).length : Nat))) = H1 at e0 hk1
  walk_at "go"
  refine ⟨d, k0, r, l, ring, len, home, start, ps, sts, allOf sts.length, (), rfl, hD.ex e0, SqL.of hk1, gd, fun n hn => mem_all.mp hn, by rw [all_len]; exact h7, fun H2 e12 => ?_⟩
  have e02 := e0.trans e12
  have hk2 := e12 _ _ hk1
  walk_at "go"
  refine iteB (fun c => ?_) (fun c => ?_)
  · walk_at "go"
    exact q1 (by unfold clashOf; rw [if_pos c]) H2 e02
  walk_at "go"
  have k1' := e02 _ _ k1
  have k3' := e02 _ _ k3
  refine ⟨d, _, dx, _, _, rfl, k1', T.cl_Day, T.na_Day_stops, rfl, ?_⟩
  walk_at "go"
  have lz : (((ps.map V.ref).length : Int) - 0).toNat = sts.length := by omega
  rw [lz]
  refine for_rangeC (lo := 0 + ((sts.length : Nat) : Int) - 1) (c := -1) (n := sts.length) (fun i σ H' => ∃ (kp : Addr) (x2 x3 x4 : Option V), σ = [some (.ref d), some (.ref kp), x2, x3, x4] ∧ Ex H2 H' ∧ H' kp = some (.lst ((clashGo ring len home start sts i).map V.int))) ⟨k0, _, _, _, rfl, Evl.Ex.refl _, hk2⟩ ?_ ?_
  · rintro i σ H3 hi ⟨kp, x2, x3, x4, rfl, e23, hkp⟩
    have sub := clash_sub ring len home start sts i
    have lc7 : (clashGo ring len home start sts i).length ≤ 7 := by have := sub.length_le; rw [all_len] at this; omega
    have lcv : ((clashGo ring len home start sts i).map V.int).length = (clashGo ring len home start sts i).length := List.length_map _
    have nu : 0 + ((sts.length : Nat) : Int) - 1 + ((i : Nat) : Int) * (-1) = (sts.length : Int) - 1 - (i : Int) := by omega
    rw [nu]
    generalize hnum : (sts.length : Int) - 1 - (i : Int) = num
    have hgo : clashGo ring len home start sts (i + 1) = dropOf ring len home start sts (clashGo ring len home start sts i) num := by rw [← hnum]; rfl
    generalize clashGo ring len home start sts i = cs at sub lc7 lcv hkp hgo
    have hkps : SqL K H3 kp (cs.map V.int) := SqL.of hkp
    walk_at "go"
    refine ⟨⟨_, hkps⟩, fun D hD2 => lc_list (K := K) (a := kp) (xs := cs.map V.int) (fun j H' => Ex H3 H' ∧ H' D = some (.lst ((lessOf (cs.take j) num).map V.int))) ⟨Evl.Ex.new hD2, upd_same⟩ (fun j H' _ p => Evl.ex_l p.1 hkps) ?_ ?_⟩
    · rintro j y H' hj ⟨ex, hd⟩
      obtain ⟨n, hn, rfl⟩ := map_int_get hj
      have so : lessOf (cs.take (j + 1)) num = lessOf (cs.take j) num ++ (if n ≠ num then [n] else []) := by
        unfold lessOf
        rw [List.take_succ, hn, List.filter_append]
        congr 1
        by_cases c : n = num <;> simp [c]
      walk_at "go"
      refine iteB (fun c => ?_) (fun c => ?_)
      · have c1 : n ≠ num := fun z => nndec c (congrArg V.int z)
        rw [so, if_pos c1]
        walk_at "go"
        refine ⟨_, hd, Evl.sz_lt ?_, Evl.Ex.mut ex hD2, ?_⟩
        · rw [List.length_map]
          have h1 : (lessOf (cs.take j) num).length ≤ (cs.take j).length := List.length_filter_le _ _
          rw [List.length_take] at h1
          omega
        · rw [upd_same, List.map_append]
          rfl
      · have c1 : ¬ n ≠ num := fun z => z (V.int.inj (ndec c))
        rw [so, if_neg c1, List.append_nil]
        exact ⟨ex, hd⟩
    rintro H4 ⟨e34, hD4⟩
    rw [lcv, List.take_length] at hD4
    have sub2 : (lessOf cs num).Sublist (allOf sts.length) := List.filter_sublist.trans sub
    walk_at "go"
    refine ⟨d, D, r, l, ring, len, home, start, ps, sts, lessOf cs num, (), rfl, hD.ex ((e02.trans e23).trans e34), SqL.of hD4, gd, fun n hn => mem_all.mp (sub2.subset hn), by have := sub2.length_le; rw [all_len] at this; omega, fun H5 e45 => ?_⟩
    have e25 := (e23.trans e34).trans e45
    rw [hgo]
    unfold dropOf
    walk_at "go"
    refine iteB (fun c => ?_) (fun c => ?_)
    · have c1 : ¬ hasOf ring len home start sts (lessOf cs num) = true := fun z => by rw [z] at c; cases c
      rw [if_neg c1]
      walk_at "go"
      exact ⟨D, _, _, _, rfl, e25, e45 _ _ hD4⟩
    · have c1 : hasOf ring len home start sts (lessOf cs num) = true := by
        cases z : hasOf ring len home start sts (lessOf cs num) with
        | true => rfl
        | false => rw [z] at c; cases c
      rw [if_pos c1]
      exact ⟨kp, _, _, _, rfl, e25, (e34.trans e45) _ _ hkp⟩
  · rintro σ H3 ⟨kp, x2, x3, x4, rfl, e23, hkp⟩
    walk_at "go"
    refine ⟨_, _, rfl, Or.inl ⟨SqL.of hkp, fun p hp => ?_⟩⟩
    have nc : ¬ hasOf ring len home start sts (allOf sts.length) = true := fun z => by rw [z] at c; cases c
    exact q2 _ (by unfold clashOf; rw [if_neg nc]) p _ ((e02.trans e23).trans (Evl.Ex.new hp)) (none_of_ex (e02.trans e23) hp) upd_same
/-! #### _law_times_right -/
def OrdG (H : Hp) (p : Addr) : Prop := ∃ ns : List Int, H p = some (.lst (ns.map V.int)) ∧ ns.length ≤ 8 ∧ ∀ n ∈ ns, 0 ≤ n
theorem OrdG.ex {H H' : Hp} {p : Addr} (e : Ex H H') : OrdG H p → OrdG H' p
  | ⟨ns, h1, h2, h3⟩ => ⟨ns, e _ _ h1, h2, h3⟩
theorem rgV_ints (a b : Int) (ha : 0 ≤ a) (hb : b ≤ 8) : ∃ ns : List Int, rgV a b = ns.map V.int ∧ ns.length ≤ 8 ∧ ∀ n ∈ ns, 0 ≤ n := by
  refine ⟨(List.range (b - a).toNat).map fun (i : Nat) => a + (i : Int), ?_, ?_, ?_⟩
  · rw [List.map_map]; rfl
  · rw [List.length_map, List.length_range]; omega
  · intro n hn
    obtain ⟨i, _, rfl⟩ := List.mem_map.mp hn
    omega
theorem OrdG.rg {H : Hp} {p : Addr} {a b : Int} (ha : 0 ≤ a) (hb : b ≤ 8) (h : H p = some (.lst (rgV a b))) : OrdG H p := by
  obtain ⟨ns, h1, h2, h3⟩ := rgV_ints a b ha hb
  exact ⟨ns, by rw [h, h1], h2, h3⟩
theorem OrdG.rev {H : Hp} {p : Addr} {a b : Int} (ha : 0 ≤ a) (hb : b ≤ 8) (h : H p = some (.lst (rgV a b).reverse)) : OrdG H p := by
  obtain ⟨ns, h1, h2, h3⟩ := rgV_ints a b ha hb
  refine ⟨ns.reverse, by rw [h, h1, List.map_reverse], by rw [List.length_reverse]; exact h2, fun n hn => h3 n (List.mem_reverse.mp hn)⟩
def sp_law_times_right (P : Program) (W : World) (K : PySem.W.Frag) : Sp := fun vs H Q _ => ∃ (r a p0 p1 d0 d1 s0 s1 : Addr) (ring : Bool) (len home start : Int) (r0 l0 r1 l1 : Addr) (ps0 ps1 qs0 qs1 : List Addr) (sts us : List Stp) (_u _v : Unit), vs = [.ref r, .int home, .int start, .ref a] ∧ SqT K H r (roadV ring len) ∧ SqL K H a [.ref p0, .ref p1] ∧ SqT K H p0 [.ref d0, .ref s0] ∧ SqT K H p1 [.ref d1, .ref s1] ∧
  DayAt K H d0 r0 l0 (wordOf ring) len home start ps0 sts ∧ SqL K H s0 (qs0.map V.ref) ∧ StopsR K H qs0 sts ∧ GoodDay ring len home start sts ∧
  DayAt K H d1 r1 l1 (wordOf ring) len home start ps1 us ∧ SqL K H s1 (qs1.map V.ref) ∧ StopsR K H qs1 us ∧ GoodDay ring len home start us ∧
  ∀ H', Ex H H' → Q (.bl true) H'
set_option maxHeartbeats 4000000 in
theorem ok_law_times_right (T : Txt K mg D) : FnOk P w K mg base CX0 9 (He.ga K "_law_times_right") (D "_law_times_right") ["_law_road", "_law_home", "_law_start", "_law_pairs"] (sp_law_times_right P w K) := by
  refine T.F_law_times_right.ok sc_law_times_right (fun vs H Q E h => ?_) (fun cdv A outer s H vs Q E hr h => ?_)
  · obtain ⟨_, _, _, _, _, _, _, _, _, _, _, _, _, _, _, _, _, _, _, _, _, _, _, _, rfl, _⟩ := h
    rfl
  obtain ⟨r, a, p0, p1, d0, d1, s0, s1, ring, len, home, start, r0, l0, r1, l1, ps0, ps1, qs0, qs1, sts, us, _, _, rfl, hR, hA, hT0, hT1, hD0, hS0, hP0, g0, hD1, hS1, hP1, g1, q⟩ := h
  refine ⟨_, PSs.nox (pss_cons (ps_for PassesOwn.never rfl (pi_list (pv 3)) (pg_tup rfl (pgs_cons (pg_name (i := 4) sc_law_times_right.nd rfl (Or.inl rfl)) (pgs_cons (pg_name (i := 5) sc_law_times_right.nd rfl (Or.inl rfl)) pgs_nil)))
      (pss_cons (ps_set (i := 6) sc_law_times_right.nd rfl (Or.inl rfl) (pe_callB call_len_seq rfl T.m_len PySem.boot_len (pa_cons (pv 5) pa_nil)))
      (pss_cons (ps_set (i := 7) sc_law_times_right.nd rfl (Or.inl rfl) (pe_lst (pa_cons (pe_listRg rfl rfl T.m_list (prg_1 rfl T.m_range (pv 6))) (pa_cons (pe_listRg rfl rfl T.m_list (prg_2 rfl T.m_range pe_int (pv 6))) (pa_cons (pe_revL (pe_listRg rfl rfl T.m_list (prg_1 rfl T.m_range (pv 6)))) (pa_cons (pe_lst (pa_cons pe_int (pa_cons pe_int pa_nil))) pa_nil))))))
      (pss_one (ps_for PassesOwn.never rfl (pi_list (pe_op op_cat (pv 7) (pe_op op_rep (pe_lst (pa_cons (pe_lst (pa_cons (pe_op op_sub (pv 6) pe_int) pa_nil)) pa_nil)) (pe_callTy call_int1 rfl T.m_int (by decide +kernel) (pa_cons (pe_cmpR op_gt (pv 6) pe_int (nomark _)) pa_nil))))) (pg_name (i := 8) sc_law_times_right.nd rfl (Or.inl rfl))
        (pss_one (ps_if (pt_cmpR (op_neAny (room65 hr)) (pe_call (ok_law_driven T) hr rfl T.m_law_driven T.F_law_driven.kp T.b_law_driven .nil pass0 (pa_cons (pv 4) (pa_cons (pv 8) (pa_cons pe_int pa_nil)))) (pe_call (ok_law_due_times T) (hr.mono (by decide)) rfl T.m_law_due_times T.F_law_due_times.kp T.b_law_due_times .nil pass0 (pa_cons (pv 0) (pa_cons (pv 1) (pa_cons (pv 2) (pa_cons (pv 5) (pa_cons (pv 8) pa_nil)))))) (nomark _)) (pss_one (ps_ret pe_bl)) pss_nil)))))))
    (pss_one (ps_ret pe_bl))), ?_⟩
  dsimp only [L2.cxOf, L2.Cx.nox]
  have each : ∀ (i : Nat) (y : V), ([.ref p0, .ref p1] : List V)[i]? = some y → ∃ (p d' s' r' l' : Addr) (ps qs : List Addr) (zs : List Stp), y = .ref p ∧ SqT K H p [.ref d', .ref s'] ∧ DayAt K H d' r' l' (wordOf ring) len home start ps zs ∧ SqL K H s' (qs.map V.ref) ∧ StopsR K H qs zs ∧ GoodDay ring len home start zs := fun i y hi => by
    match i, hi with
    | 0, hi => exact ⟨p0, d0, s0, r0, l0, ps0, qs0, sts, (Option.some.inj hi).symm, hT0, hD0, hS0, hP0, g0⟩
    | 1, hi => exact ⟨p1, d1, s1, r1, l1, ps1, qs1, us, (Option.some.inj hi).symm, hT1, hD1, hS1, hP1, g1⟩
    | i + 2, hi => cases hi
  walk_at "go"
  refine ⟨⟨_, hA⟩, for_list (K := K) (a := a) (xs := [.ref p0, .ref p1]) (fun i σ H' => ∃ (x4 x5 x6 x7 x8 : Option V), σ = [some (.ref r), some (.int home), some (.int start), some (.ref a), x4, x5, x6, x7, x8] ∧ Ex H H') ⟨_, _, _, _, _, rfl, Ex.refl _⟩ (fun i σ H' _ p => ?_) ?_ ?_⟩
  · obtain ⟨x4, x5, x6, x7, x8, rfl, e⟩ := p
    exact Evl.ex_l e hA
  · rintro i y σ H1 hi ⟨x4, x5, x6, x7, x8, rfl, e1⟩
    obtain ⟨p, d', s', r', l', ps, qs, zs, rfl, hT, hD, hS, hP, gd⟩ := each i y hi
    have hT1 := Evl.ex_t e1 hT
    have hS1 := Evl.ex_l e1 hS
    have lq : qs.length = zs.length := hP.len
    have l7 : zs.length ≤ 7 := gd.2.2.2.2.2
    have lm : (((qs.map V.ref).length : Nat) : Int) ≤ 7 := by rw [List.length_map]; omega
    have rg0 : RgOk 0 (((qs.map V.ref).length : Nat) : Int) := ⟨by omega, by omega, by omega, by omega, by omega⟩
    have rg1 : RgOk 1 (((qs.map V.ref).length : Nat) : Int) := ⟨by omega, by omega, by omega, by omega, by omega⟩
    have m0 : (0 : Int) ≤ (((qs.map V.ref).length : Nat) : Int) := by omega
    walk_at "go"
    generalize (((qs.map V.ref).length : Nat) : Int) = m at lm rg0 rg1 m0
    intro o1 f1
    have e2 := Evl.Ex.new (o := .lst (rgV 0 m)) f1
    have g1 : OrdG (upd H1 o1 (.lst (rgV 0 m))) o1 := .rg (by omega) (by omega) upd_same
    generalize upd H1 o1 (.lst (rgV 0 m)) = H2 at e2 g1
    walk_at "go"
    intro o2 f2
    have e3 := Evl.Ex.new (o := .lst (rgV 1 m)) f2
    have g2 : OrdG (upd H2 o2 (.lst (rgV 1 m))) o2 := .rg (by omega) (by omega) upd_same
    generalize upd H2 o2 (.lst (rgV 1 m)) = H3 at e3 g2
    walk_at "go"
    intro o3 f3
    have e4 := Evl.Ex.new (o := .lst (rgV 0 m)) f3
    have h3 : SqL K (upd H3 o3 (.lst (rgV 0 m))) o3 (rgV 0 m) := SqL.of upd_same
    generalize upd H3 o3 (.lst (rgV 0 m)) = H4 at e4 h3
    walk_at "go"
    intro o4 f4
    have e5 := Evl.Ex.new (o := .lst (rgV 0 m).reverse) f4
    have g4 : OrdG (upd H4 o4 (.lst (rgV 0 m).reverse)) o4 := .rev (by omega) (by omega) upd_same
    generalize upd H4 o4 (.lst (rgV 0 m).reverse) = H5 at e5 g4
    walk_at "go"
    intro o5 f5
    have e6 := Evl.Ex.new (o := .lst [.int 0, .int 0]) f5
    have g5 : OrdG (upd H5 o5 (.lst [.int 0, .int 0])) o5 := ⟨[0, 0], upd_same, by decide, by decide⟩
    generalize upd H5 o5 (.lst [.int 0, .int 0]) = H6 at e6 g5
    walk_at "go"
    intro L fL
    have e7 := Evl.Ex.new (o := .lst [.ref o1, .ref o2, .ref o4, .ref o5]) fL
    have hL : (upd H6 L (.lst [.ref o1, .ref o2, .ref o4, .ref o5])) L = some (.lst [.ref o1, .ref o2, .ref o4, .ref o5]) := upd_same
    generalize upd H6 L (.lst [.ref o1, .ref o2, .ref o4, .ref o5]) = H7 at e7 hL
    walk_at "go"
    intro o6 f6
    have e8 := Evl.Ex.new (o := .lst [.int (m - 1)]) f6
    have g6 : 0 < m → OrdG (upd H7 o6 (.lst [.int (m - 1)])) o6 := fun mp => ⟨[m - 1], upd_same, by (show 1 ≤ 8; decide), fun n hn => by rw [List.mem_singleton.mp hn]; omega⟩
    have n6 : upd H7 o6 (.lst [.int (m - 1)]) o6 ≠ none := by rw [upd_same]; intro z; cases z
    generalize upd H7 o6 (.lst [.int (m - 1)]) = H8 at e8 g6 n6
    walk_at "go"
    intro o7 f7
    have e9 := Evl.Ex.new (o := .lst [.ref o6]) f7
    have h7 : (upd H8 o7 (.lst [.ref o6])) o7 = some (.lst [.ref o6]) := upd_same
    generalize upd H8 o7 (.lst [.ref o6]) = H9 at e9 h7
    walk_at "go"
    refine Or.inr ⟨decide (0 < m), rfl, ?_⟩
    walk_at "go"
    refine ⟨o7, _, _, rfl, rfl, h7, ?_, ?_, ?_, fun o8 f8 => ?_⟩
    · split <;> omega
    · split <;> omega
    · split
      · exact Evl.sz_of (show 1 * 1 ≤ 100000 by decide)
      · exact Evl.sz_of (show 1 * 0 ≤ 100000 by decide)
    have e10 := Evl.Ex.new (o := .lst (List.replicate (if decide (0 < m) = true then (1 : Int) else 0).toNat [V.ref o6]).flatten) f8
    have h8 : (upd H9 o8 (.lst (List.replicate (if decide (0 < m) = true then (1 : Int) else 0).toNat [V.ref o6]).flatten)) o8 = some (.lst (if 0 < m then [.ref o6] else [])) := by
      rw [upd_same]
      by_cases c : 0 < m
      · rw [if_pos c, if_pos (decide_eq_true c)]; rfl
      · rw [if_neg c, if_neg (by rw [decide_eq_false c]; decide)]; rfl
    generalize upd H9 o8 (.lst (List.replicate (if decide (0 < m) = true then (1 : Int) else 0).toNat [V.ref o6]).flatten) = H10 at e10 h8
    have e710 := ((e8.trans e9).trans e10)
    have hL10 := e710 _ _ hL
    have s9 : ([V.ref o1, V.ref o2, V.ref o4, V.ref o5] : List V).length + (if 0 < m then [V.ref o6] else []).length ≤ sizeLine := by
      split
      · exact Evl.sz_of (show 4 + 1 ≤ 100000 by decide)
      · exact Evl.sz_of (show 4 + 0 ≤ 100000 by decide)
    walk_at "go"
    intro o9 f9
    have e11 := Evl.Ex.new (o := .lst ([.ref o1, .ref o2, .ref o4, .ref o5] ++ (if 0 < m then [.ref o6] else []))) f9
    have h9 : (upd H10 o9 (.lst ([.ref o1, .ref o2, .ref o4, .ref o5] ++ (if 0 < m then [.ref o6] else [])))) o9 = some (.lst ([.ref o1, .ref o2, .ref o4, .ref o5] ++ (if 0 < m then [.ref o6] else []))) := upd_same
    generalize upd H10 o9 (.lst ([.ref o1, .ref o2, .ref o4, .ref o5] ++ (if 0 < m then [.ref o6] else []))) = H11 at e11 h9
    have e911 := (e9.trans e10).trans e11
    have e711 := e8.trans e911
    have e611 := e7.trans e711
    have e511 := e6.trans e611
    have e411 := e5.trans e511
    have e211 := (e3.trans e4).trans e411
    have e11a := e1.trans (e2.trans e211)
    have eachO : ∀ (j : Nat) (y : V), ([.ref o1, .ref o2, .ref o4, .ref o5] ++ (if 0 < m then [.ref o6] else []) : List V)[j]? = some y → ∃ o, y = .ref o ∧ OrdG H11 o := fun j y hj => by
      match j, hj with
      | 0, hj => exact ⟨o1, (Option.some.inj hj).symm, g1.ex e211⟩
      | 1, hj => exact ⟨o2, (Option.some.inj hj).symm, g2.ex (e4.trans e411)⟩
      | 2, hj => exact ⟨o4, (Option.some.inj hj).symm, g4.ex e511⟩
      | 3, hj => exact ⟨o5, (Option.some.inj hj).symm, g5.ex e611⟩
      | j + 4, hj =>
        have hj' : (if 0 < m then [V.ref o6] else [])[j]? = some y := hj
        by_cases c : 0 < m
        · rw [if_pos c] at hj'
          cases j with
          | zero => exact ⟨o6, (Option.some.inj hj').symm, (g6 c).ex e911⟩
          | succ j => cases hj'
        · rw [if_neg c] at hj'
          cases hj'
    walk_at "go"
    refine ⟨⟨_, SqL.of h9⟩, for_list (K := K) (a := o9) (xs := [.ref o1, .ref o2, .ref o4, .ref o5] ++ (if 0 < m then [.ref o6] else [])) (fun i σ H' => ∃ (x8 : Option V), σ = [some (.ref r), some (.int home), some (.int start), some (.ref a), some (.ref d'), some (.ref s'), some (.int m), some (.ref L), x8] ∧ Ex H11 H') ⟨_, rfl, Evl.Ex.refl _⟩ (fun i σ H' _ p => ?_) ?_ ?_⟩
    · obtain ⟨x8, rfl, e⟩ := p
      exact SqL.of (e _ _ h9)
    · rintro j y σ H12 hj ⟨x8, rfl, e12⟩
      obtain ⟨o, rfl, ns, h1, h2, h3⟩ := eachO j y hj
      have eH := e11a.trans e12
      walk_at "go"
      refine ⟨d', o, r', l', ring, len, home, start, 0, ps, zs, ns, (), rfl, hD.ex eH, SqL.of (e12 _ _ h1), by omega, gd, by omega, by omega, fun v H13 e13 a13 => ?_⟩
      have eH3 := eH.trans e13
      have hP3 := hP.ex eH3
      walk_at "go"
      refine ⟨r, s', o, ring, len, home, start, qs, zs, ns, (), (), rfl, Evl.ex_t eH3 hR, Evl.ex_l eH3 hS, hP3, SqL.of (e13 _ _ (e12 _ _ h1)), gd, h2, h3, fun u H14 e14 a14 => ?_⟩
      walk_at "go"
      refine AnsR.same ?_ (a13.ex e14) a14
      walk_at "go"
      exact e12.trans (e13.trans e14)
    · rintro σ H12 ⟨x8, rfl, e12⟩
      exact ⟨_, _, _, _, _, rfl, e11a.trans e12⟩
  · rintro σ H1 ⟨x4, x5, x6, x7, x8, rfl, e1⟩
    walk_at "go"
    exact q _ e1
/-! #### told -/
theorem end_is {ring : Bool} {len home start : Int} {sts : List Stp} {ns : List Int} {rs : List Row} {z : Int × Int} (h : 0 < len) (hrs : rowsOf ring len sts home start ns = some rs) (hz : behindOf ring len sts home start ns = some z) : endOf ring len sts home start ns rs = z.2 + apartOf ring len z.1 home := by
  have rl := rows_len hrs
  rcases split_last ns with rfl | ⟨ns', n, rfl⟩
  · obtain rfl : rs = [] := List.eq_nil_of_length_eq_zero rl
    have e : (home, start) = z := Option.some.inj hz
    rw [← e]
    show start = start + apartOf ring len home home
    rw [apart_self h, Int.add_zero]
  · rcases split_last rs with rfl | ⟨rs', x, rfl⟩
    · rw [List.length_append] at rl; simp at rl
    have e := Option.some.inj ((behind_last hrs).symm.trans hz)
    rw [end_snoc, ← e]
def sp_told (K : PySem.W.Frag) : Sp := fun vs H Q _ => ∃ (d r l : Addr) (ring : Bool) (len home start : Int) (ps : List Addr) (sts : List Stp) (_u : Unit), vs = [.ref d] ∧ DayAt K H d r l (wordOf ring) len home start ps sts ∧ GoodDay ring len home start sts ∧
  (∀ ks, bestOf ring len home start sts = none → clashOf ring len home start sts = some ks → ∀ p c H', Ex H H' → H p = none → H c = none → H' p = some (.tup [.str "clash", .ref c]) → H' c = some (.tup (ks.map V.int)) → Q (.ref p) H') ∧
  (∀ os e, bestOf ring len home start sts = some os → leastOf ring len sts home start [] = some e → ∀ p o H', Ex H H' → H p = none → H o = none → H' p = some (.tup [.str "tour", .ref o, .int e]) → H' o = some (.lst (os.map V.int)) → Q (.ref p) H')
set_option maxHeartbeats 4000000 in
theorem ok_told (T : Txt K mg D) : FnOk P w K mg base CX0 10 (He.ga K "told") (D "told") ["day"] (sp_told K) := by
  refine T.F_told.ok sc_told (fun vs H Q E h => ?_) (fun cdv A outer s H vs Q E hr h => ?_)
  · obtain ⟨_, _, _, _, _, _, _, _, _, _, rfl, _⟩ := h
    rfl
  obtain ⟨d, r, l, ring, len, home, start, ps, sts, _, rfl, hD, gd, q1, q2⟩ := h
  refine ⟨_, PSs.nox (pss_cons (ps_set (i := 1) sc_told.nd rfl (Or.inl rfl) (pe_call (ok_best T) hr rfl T.m_best T.F_best.kp T.b_best .nil pass0 (pa_cons (pv 0) pa_nil)))
    (pss_cons (ps_if (pt_cmpR op_isN1 (pv 1) pe_non (nomark _)) (pss_one (ps_ret (pe_tup (pa_cons pe_str (pa_cons (pe_call (ok_clash T) hr rfl T.m_clash T.F_clash.kp T.b_clash .nil pass0 (pa_cons (pv 0) pa_nil)) pa_nil))))) pss_nil)
    (pss_one (ps_ret (pe_tup (pa_cons pe_str (pa_cons (pv 1) (pa_cons (pe_call (ok_ends T) (hr.mono (by decide)) rfl T.m_ends T.F_ends.kp T.b_ends .nil passL (pa_cons (pv 0) (pa_cons (pv 1) pa_nil))) pa_nil)))))))), ?_⟩
  dsimp only [L2.cxOf, L2.Cx.nox]
  have hl0 : 0 < len := by have := gd.1; omega
  have h7 : sts.length ≤ 7 := gd.2.2.2.2.2
  walk_at "go"
  refine ⟨d, r, l, ring, len, home, start, ps, sts, rfl, hD, hl0, h7, fun no H1 e1 => ?_, fun os yes p H1 e1 fp hp => ?_⟩
  · walk_at "go"
    refine ⟨d, r, l, ring, len, home, start, ps, sts, (), rfl, hD.ex e1, gd, fun z H2 e2 => ?_, fun ks hk c H2 e2 fc hc => ?_⟩
    · exfalso
      have a := clash_none ring len home start sts z
      cases b : leastOf ring len sts home start [] with
      | none => rw [b] at a; cases a
      | some e => rw [best_some ring len home start sts b] at no; cases no
    walk_at "go"
    intro p hp
    exact q1 ks no hk p c _ ((e1.trans e2).trans (Evl.Ex.new hp)) (none_of_ex (e1.trans e2) hp) (none_of_ex e1 fc) upd_same (Evl.Ex.new hp _ _ hc)
  · obtain ⟨e, z, b1, b2, b3, b4, b5, b6⟩ := best_is ring len home start sts yes
    walk_at "go"
    refine ⟨d, p, r, l, ring, len, home, start, ps, sts, os, rfl, hD.ex e1, SqL.of hp, by omega, hl0, fun bad => absurd b3 bad, fun _ ms => ?_, fun _ rs hrs H2 e2 => ?_⟩
    · rw [behind_none ms] at b5; cases b5
    rw [end_is hl0 hrs b5, ← b6]
    walk_at "go"
    intro p2 hp2
    exact q2 os e yes b1 p2 p _ ((e1.trans e2).trans (Evl.Ex.new hp2)) (none_of_ex (e1.trans e2) hp2) fp upd_same (Evl.Ex.new hp2 _ _ (e2 _ _ hp))
/-! #### _law_answer -/
def sp_law_answer (P : Program) (W : World) (K : PySem.W.Frag) : Sp := fun vs H Q _ => ∃ (d o r l : Addr) (ring : Bool) (len home start k : Int) (ps : List Addr) (sts : List Stp) (ns : List Int) (_u _v _w : Unit), vs = [.ref d, .ref o, .int k] ∧ DayAt K H d r l (wordOf ring) len home start ps sts ∧ SqL K H o (ns.map V.int) ∧ ns.length ≤ 4000 ∧ GoodDay ring len home start sts ∧ 0 ≤ k ∧ k ≤ 6 ∧
  ∀ v H', Ex H H' → AnsR P W (fun p => H p = none) H' v (ansOf ring len home start sts ns k) → Q v H'
set_option maxHeartbeats 4000000 in
theorem ok_law_answer (T : Txt K mg D) : FnOk P w K mg base CX0 11 (He.ga K "_law_answer") (D "_law_answer") ["_law_day", "_law_order_here", "_law_kind"] (sp_law_answer P w K) := by
  refine T.F_law_answer.ok sc_law_answer (fun vs H Q E h => ?_) (fun cdv A outer s H vs Q E hr h => ?_)
  · obtain ⟨_, _, _, _, _, _, _, _, _, _, _, _, _, _, _, rfl, _⟩ := h
    rfl
  obtain ⟨d, o, r, l, ring, len, home, start, k, ps, sts, ns, _, _, _, rfl, hD, hO, hz, gd, k0, k6, q⟩ := h
  refine ⟨_, PSs.nox (pss_cons (ps_if (pt_cmpR op_lt (pv 2) pe_int (nomark _)) (pss_one (ps_ret (pe_call (ok_law_driven T) (hr.mono (by decide)) rfl T.m_law_driven T.F_law_driven.kp T.b_law_driven .nil pass0 (pa_cons (pv 0) (pa_cons (pv 1) (pa_cons (pv 2) pa_nil)))))) pss_nil)
    (pss_cons (ps_if (pt_cmpR op_eq (pv 2) pe_int (nomark _)) (pss_one (ps_ret (pe_call (ok_best T) (hr.mono (by decide)) rfl T.m_best T.F_best.kp T.b_best .nil pass0 (pa_cons (pv 0) pa_nil)))) pss_nil)
    (pss_cons (ps_if (pt_cmpR op_eq (pv 2) pe_int (nomark _)) (pss_one (ps_ret (pe_call (ok_clash T) (hr.mono (by decide)) rfl T.m_clash T.F_clash.kp T.b_clash .nil pass0 (pa_cons (pv 0) pa_nil)))) pss_nil)
    (pss_one (ps_ret (pe_call (ok_told T) hr rfl T.m_told T.F_told.kp T.b_told .nil pass0 (pa_cons (pv 0) pa_nil))))))), ?_⟩
  dsimp only [L2.cxOf, L2.Cx.nox]
  have hl0 : 0 < len := by have := gd.1; omega
  have h7 : sts.length ≤ 7 := gd.2.2.2.2.2
  walk_at "go"
  refine iteB (fun c => ?_) (fun c => ?_)
  · have ck := odt c
    walk_at "go"
    exact ⟨d, o, r, l, ring, len, home, start, k, ps, sts, ns, (), rfl, hD, hO, hz, gd, k0, by omega, q⟩
  have ck := odf c
  have n0 : k ≠ 0 := by omega
  have n1 : k ≠ 1 := by omega
  have n2 : k ≠ 2 := by omega
  have n3 : k ≠ 3 := by omega
  walk_at "go"
  refine iteB (fun c => ?_) (fun c => ?_)
  · have ck : k = 4 := V.int.inj (odt c)
    have ea : ansOf ring len home start sts ns k = .lst (bestOf ring len home start sts) := by unfold ansOf; rw [if_neg n0, if_neg n1, if_neg n2, if_neg n3, if_pos ck]
    rw [ea] at q
    walk_at "go"
    refine ⟨d, r, l, ring, len, home, start, ps, sts, rfl, hD, hl0, h7, fun no H1 e1 => ?_, fun os yes p H1 e1 fp hp => ?_⟩
    · rw [no] at q
      exact q _ H1 e1 rfl
    · rw [yes] at q
      exact q _ H1 e1 ⟨p, rfl, fp, hp⟩
  have n4 : k ≠ 4 := fun z => odf c (congrArg V.int z)
  walk_at "go"
  refine iteB (fun c => ?_) (fun c => ?_)
  · have ck : k = 5 := V.int.inj (odt c)
    have ea : ansOf ring len home start sts ns k = .tup (clashOf ring len home start sts) := by unfold ansOf; rw [if_neg n0, if_neg n1, if_neg n2, if_neg n3, if_neg n4, if_pos ck]
    rw [ea] at q
    walk_at "go"
    refine ⟨d, r, l, ring, len, home, start, ps, sts, (), rfl, hD, gd, fun no H1 e1 => ?_, fun ks yes p H1 e1 fp hp => ?_⟩
    · rw [no] at q
      exact q _ H1 e1 rfl
    · rw [yes] at q
      exact q _ H1 e1 ⟨p, rfl, hp⟩
  have n5 : k ≠ 5 := fun z => odf c (congrArg V.int z)
  have ea : ansOf ring len home start sts ns k = (match leastOf ring len sts home start [] with | none => .clash (clashGo ring len home start sts sts.length) | some e => .tour (bestGo ring len home start sts e sts.length) e) := by unfold ansOf; rw [if_neg n0, if_neg n1, if_neg n2, if_neg n3, if_neg n4, if_neg n5]; try rfl
  rw [ea] at q
  walk_at "go"
  refine ⟨d, r, l, ring, len, home, start, ps, sts, (), rfl, hD, gd, fun ks no hk p c2 H1 e1 fp fc hp hc => ?_, fun os e yb hle p o2 H1 e1 fp fo hp ho => ?_⟩
  · have hle : leastOf ring len sts home start [] = none := by
      cases z : leastOf ring len sts home start [] with
      | none => rfl
      | some e => rw [best_some ring len home start sts z] at no; cases no
    rw [clash_of ring len home start sts hle] at hk
    obtain rfl := Option.some.inj hk
    rw [hle] at q
    exact q _ H1 e1 ⟨p, c2, rfl, hp, hc⟩
  · rw [best_some ring len home start sts hle] at yb
    obtain rfl := Option.some.inj yb
    rw [hle] at q
    exact q _ H1 e1 ⟨p, o2, rfl, fo, hp, ho⟩
/-! #### law -/
theorem turn_ref {gs : List Addr} {i : Nat} (h : i < gs.length) : ∃ p, atI (gs.map V.ref) (-1 - (0 + (i : Int))) = some (.ref p) ∧ gs.reverse[i]? = some p := by
  have hl : (gs.map V.ref).length = gs.length := List.length_map _
  have hk : gs.length - 1 - i < gs.length := by omega
  have e : ixN (gs.map V.ref).length (-1 - (0 + (i : Int))) = some (gs.length - 1 - i) := by
    unfold ixN
    rw [hl, if_neg (by omega), if_pos (by omega)]
    congr 1
    omega
  refine ⟨gs[gs.length - 1 - i], ?_, ?_⟩
  · unfold atI
    rw [e]
    show (gs.map V.ref)[gs.length - 1 - i]? = _
    rw [List.getElem?_map, List.getElem?_eq_getElem hk]
    rfl
  · rw [List.getElem?_reverse h, List.getElem?_eq_getElem hk]
theorem StopsR.rev {K : PySem.W.Frag} {H : Hp} : ∀ {ps : List Addr} {sts : List Stp}, StopsR K H ps sts → StopsR K H ps.reverse sts.reverse
  | [], [], _ => .nil
  | [], _ :: _, h => by cases h
  | _ :: _, [], h => by cases h
  | p :: ps, s :: sts, h => by
    cases h with
    | cons r t =>
      rw [List.reverse_cons, List.reverse_cons]
      exact StopsR.snoc r (StopsR.rev t)
theorem GoodDay.rev {ring : Bool} {len home start : Int} {sts : List Stp} (g : GoodDay ring len home start sts) : GoodDay ring len home start sts.reverse :=
  ⟨g.1, g.2.1, g.2.2.1, g.2.2.2.1, fun s hs => g.2.2.2.2.1 s (List.mem_reverse.mp hs), by rw [List.length_reverse]; exact g.2.2.2.2.2⟩
def HeldR (P : Program) (W : World) (F : Addr → Prop) (H : Hp) (tps : List Addr) : Prop := ∀ p ∈ tps, ∃ v u a, H p = some (.tup [v, u]) ∧ AnsR P W F H v a ∧ AnsR P W F H u a
theorem HeldR.ex {P : Program} {W : World} {F : Addr → Prop} {H H' : Hp} {tps : List Addr} (e : Ex H H') (h : HeldR P W F H tps) : HeldR P W F H' tps := fun p hp => by
  obtain ⟨v, u, a, h1, h2, h3⟩ := h p hp
  exact ⟨v, u, a, e _ _ h1, h2.ex e, h3.ex e⟩
theorem HeldR.put {P : Program} {W : World} {F : Addr → Prop} {H : Hp} {L : Addr} {ys : List V} {o : HO} {tps : List Addr} (hL : H L = some (.lst ys)) (i : ∀ p, F p → p ≠ L) (h : HeldR P W F H tps) : HeldR P W F (upd H L o) tps := fun p hp => by
  obtain ⟨v, u, a, h1, h2, h3⟩ := h p hp
  exact ⟨v, u, a, tup_at_lst hL _ _ h1, h2.put hL i, h3.put hL i⟩
theorem HeldR.snoc {P : Program} {W : World} {F : Addr → Prop} {H : Hp} {tps : List Addr} {p : Addr} {v u : V} {a : Ans} (hp : H p = some (.tup [v, u])) (h1 : AnsR P W F H v a) (h2 : AnsR P W F H u a) (h : HeldR P W F H tps) : HeldR P W F H (tps ++ [p]) := fun q hq => by
  rcases List.mem_append.mp hq with m | m
  · exact h q m
  · obtain rfl := List.mem_singleton.mp m
    exact ⟨v, u, a, hp, h1, h2⟩
theorem tour_small {ring : Bool} {len home start k : Int} {sts : List Stp} {ns : List Int} (h7 : sts.length ≤ 7) : (match ansOf ring len home start sts ns k with | .tour os _ => os.length ≤ 100 | _ => True) := by
  unfold ansOf
  by_cases c0 : k = 0
  · rw [if_pos c0]
    by_cases ok : ordOk ns sts.length
    · rw [errOr_ok ok]
      cases rowsOf ring len sts home start ns <;> trivial
    · rw [errOr_bad ok]
      trivial
  rw [if_neg c0]
  by_cases c1 : k = 1
  · rw [if_pos c1]
    by_cases ok : ordOk ns sts.length
    · rw [errOr_ok ok]
      cases rowsOf ring len sts home start ns <;> trivial
    · rw [errOr_bad ok]
      trivial
  rw [if_neg c1]
  by_cases c2 : k = 2
  · rw [if_pos c2]
    by_cases ok : ordOk ns sts.length
    · rw [errOr_ok ok]
      trivial
    · rw [errOr_bad ok]
      trivial
  rw [if_neg c2]
  by_cases c3 : k = 3
  · rw [if_pos c3]
    by_cases ok : ordOk ns sts.length
    · rw [errOr_ok ok]
      trivial
    · rw [errOr_bad ok]
      trivial
  rw [if_neg c3]
  by_cases c4 : k = 4
  · rw [if_pos c4]; trivial
  rw [if_neg c4]
  by_cases c5 : k = 5
  · rw [if_pos c5]; trivial
  rw [if_neg c5]
  cases hle : leastOf ring len sts home start [] with
  | none => trivial
  | some e =>
    obtain ⟨_, _, _, _, _, hl, _⟩ := best_is ring len home start sts (best_some ring len home start sts hle)
    show (bestGo ring len home start sts e sts.length).length ≤ 100
    omega
def sp_law (K : PySem.W.Frag) : Sp := fun vs H Q _ => ∃ (a : Addr) (ns : List Int), vs = [.ref a] ∧ SqL K H a (ns.map V.int) ∧ ns.length ≤ 63 ∧ ∀ H', Q (.bl true) H'
set_option maxHeartbeats 4000000 in
theorem ok_law (T : Txt K mg D) : FnOk P w K mg base CX0 12 (He.ga K "law") (D "law") ["_law_script"] (sp_law K) := by
  refine T.F_law.ok sc_law (fun vs H Q E h => ?_) (fun cdv A outer s H vs Q E hr h => ?_)
  · obtain ⟨_, _, rfl, _⟩ := h
    rfl
  obtain ⟨a, ns, rfl, hS, hn, q⟩ := h
  refine ⟨_, PSs.nox (pss_cons (ps_set (i := 1) sc_law.nd rfl (Or.inl rfl) (pe_call (ok_law_road_by T) (hr.mono (by decide)) rfl T.m_law_road_by T.F_law_road_by.kp T.b_law_road_by .nil pass0 (pa_cons (pe_call (ok2_law_cell_at T) (hr.mono (by decide)) rfl T.m_law_cell_at T.F_law_cell_at.kp T.b_law_cell_at .nil pass0 (pa_cons (pv 0) (pa_cons pe_int pa_nil))) pa_nil)))
    (pss_cons (ps_set (i := 2) sc_law.nd rfl (Or.inl rfl) (pe_call (ok_law_place_by T) (hr.mono (by decide)) rfl T.m_law_place_by T.F_law_place_by.kp T.b_law_place_by .nil pass0 (pa_cons (pv 1) (pa_cons (pe_call (ok2_law_cell_at T) (hr.mono (by decide)) rfl T.m_law_cell_at T.F_law_cell_at.kp T.b_law_cell_at .nil pass0 (pa_cons (pv 0) (pa_cons pe_int pa_nil))) pa_nil))))
    (pss_cons (ps_set (i := 3) sc_law.nd rfl (Or.inl rfl) (pe_call (ok_law_start_by T) (hr.mono (by decide)) rfl T.m_law_start_by T.F_law_start_by.kp T.b_law_start_by .nil pass0 (pa_cons (pv 1) (pa_cons (pe_call (ok2_law_cell_at T) (hr.mono (by decide)) rfl T.m_law_cell_at T.F_law_cell_at.kp T.b_law_cell_at .nil pass0 (pa_cons (pv 0) (pa_cons pe_int pa_nil))) pa_nil))))
    (pss_cons (ps_set (i := 4) sc_law.nd rfl (Or.inr rfl) (pe_call (ok_law_stops_by T) (hr.mono (by decide)) rfl T.m_law_stops_by T.F_law_stops_by.kp T.b_law_stops_by .nil pass0 (pa_cons (pv 1) (pa_cons (pv 3) (pa_cons (pv 0) (pa_cons (pe_call (ok_law_many T) (hr.mono (by decide)) rfl T.m_law_many T.F_law_many.kp T.b_law_many .nil pass0 (pa_cons (pe_call (ok2_law_cell_at T) (hr.mono (by decide)) rfl T.m_law_cell_at T.F_law_cell_at.kp T.b_law_cell_at .nil pass0 (pa_cons (pv 0) (pa_cons pe_int pa_nil))) pa_nil)) pa_nil))))))
    (pss_cons (ps_setLc (i := 5) (own := [("_law_k", 6)]) (g := gName 6) (tt := tYes) rfl sc_law.nd rfl rfl (sw_true rfl rfl rfl (by decide +kernel)) (pi_range1 rfl T.m_range (pa_cons (pe_callB call_len_seq rfl T.m_len PySem.boot_len (pa_cons (pv 4) pa_nil)) pa_nil)) (blkOk_by (own := [("_law_k", 6)]) (N := N_law) (sc := defScope s_law) (by decide +kernel)) (fun _ _ _ _ _ => pg_name (i := 6) sc_law.nd rfl (Or.inl rfl)) (fun _ _ _ _ _ => pts_nil) (fun _ _ _ _ _ => (by refine' pe_eq (t' := ?tt13) (pe_ix ix_list (pv 4) (pe_op op_sub (pe_un un_neg pe_int) (pv 6)) (fun _ _ => rfl)) ?qq13; case qq13 => (first | (dsimp only [L2.Cx.blk]; done) | (dsimp only [L2.Cx.blk]; rfl) | rfl))))
    (pss_cons (ps_set (i := 7) sc_law.nd rfl (Or.inl rfl) (pe_lst (pa_cons (pe_callTy call_list_of rfl T.m_list (by decide +kernel) (pa_cons (pv 4) pa_nil)) (pa_cons (pe_callTy call_list_of rfl T.m_list (by decide +kernel) (pa_cons (pv 5) pa_nil)) pa_nil))))
    (pss_cons (ps_set (i := 8) sc_law.nd rfl (Or.inl rfl) (pe_lst (pa_cons (pe_make T.k_Day (ok_Day___init T) (hr.mono (by decide)) rfl T.m_Day T.b_Day___init .nil passL (pa_cons (pv 1) (pa_cons (pv 2) (pa_cons (pv 3) (pa_cons (pe_ix ix_list (pv 7) pe_int (fun _ _ => rfl)) pa_nil))))) (pa_cons (pe_make T.k_Day (ok_Day___init T) (hr.mono (by decide)) rfl T.m_Day T.b_Day___init .nil passL (pa_cons (pv 1) (pa_cons (pv 2) (pa_cons (pv 3) (pa_cons (pe_ix ix_list (pv 7) pe_int (fun _ _ => rfl)) pa_nil))))) pa_nil))))
    (Evl.pss_cut (ps_if (pt_cmpR op_eq (pe_op op_mod (pe_call (ok2_law_cell_at T) (hr.mono (by decide)) rfl T.m_law_cell_at T.F_law_cell_at.kp T.b_law_cell_at .nil pass0 (pa_cons (pv 0) (pa_cons pe_int pa_nil))) pe_int) pe_int (nomark _)) (pss_one (ps_asg (pe_call (ok_read T) (hr.mono (by decide)) rfl T.m_read T.F_read.kp T.b_read .nil passL (pa_cons (pe_call (ok_written T) (hr.mono (by decide)) rfl T.m_written T.F_written.kp T.b_written .nil pass0 (pa_cons (pe_ix ix_list (pv 8) (pe_op op_mod (pe_op op_fdiv (pe_call (ok2_law_cell_at T) (hr.mono (by decide)) rfl T.m_law_cell_at T.F_law_cell_at.kp T.b_law_cell_at .nil pass0 (pa_cons (pv 0) (pa_cons pe_int pa_nil))) pe_int) pe_int) (fun _ _ => rfl)) pa_nil)) pa_nil)) (pg_sub (pv 8) (pe_op op_mod (pe_op op_fdiv (pe_call (ok2_law_cell_at T) (hr.mono (by decide)) rfl T.m_law_cell_at T.F_law_cell_at.kp T.b_law_cell_at .nil pass0 (pa_cons (pv 0) (pa_cons pe_int pa_nil))) pe_int) pe_int) set_list))) pss_nil)
    (pss_cons (ps_expr (pe_bm0 PySem.F.plainAttrs_list PySem.F.slot_list_clear PySem.F.type_list_clear mt_clear (pe_ix ix_list (pv 7) pe_int (fun _ _ => rfl))))
    (pss_cons (ps_expr (pe_bm PySem.F.plainAttrs_list PySem.F.slot_list_append PySem.F.type_list_append mt_append (pe_ix ix_list (pv 7) pe_int (fun _ _ => rfl)) (pa_cons (pe_tup (pa_cons pe_int (pa_cons pe_int (pa_cons pe_int (pa_cons pe_int pa_nil))))) pa_nil)))
    (pss_cons (ps_set (i := 9) sc_law.nd rfl (Or.inl rfl) (pe_lst pa_nil))
    (pss_cons (ps_set (i := 10) sc_law.nd rfl (Or.inl rfl) (pe_lst pa_nil))
    (pss_cons (ps_for PassesOwn.never rfl (pi_range1 rfl T.m_range (pa_cons (pe_op op_add pe_int (pe_op op_mod (pe_call (ok2_law_cell_at T) (hr.mono (by decide)) rfl T.m_law_cell_at T.F_law_cell_at.kp T.b_law_cell_at .nil pass0 (pa_cons (pv 0) (pa_cons pe_int pa_nil))) pe_int)) pa_nil)) (pg_name (i := 6) sc_law.nd rfl (Or.inl rfl))
      (pss_cons (ps_set (i := 11) sc_law.nd rfl (Or.inl rfl) (pe_call (ok2_law_cell_at T) (hr.mono (by decide)) rfl T.m_law_cell_at T.F_law_cell_at.kp T.b_law_cell_at .nil pass0 (pa_cons (pv 0) (pa_cons (pe_op op_add pe_int (pe_op op_mul pe_int (pv 6))) pa_nil))))
      (pss_cons (ps_set (i := 12) sc_law.nd rfl (Or.inl rfl) (pe_call (ok_law_order T) (hr.mono (by decide)) rfl T.m_law_order T.F_law_order.kp T.b_law_order .nil pass0 (pa_cons (pv 0) (pa_cons (pe_callB call_len_seq rfl T.m_len PySem.boot_len (pa_cons (pv 4) pa_nil)) (pa_cons (pe_op op_add pe_int (pe_op op_mul pe_int (pv 6))) pa_nil)))))
      (Evl.pss_cut (ps_if (pt_cmpR op_eq (pe_op op_mod (pe_op op_fdiv (pv 11) pe_int) pe_int) pe_int (nomark _)) (pss_one (ps_set (i := 12) sc_law.nd rfl (Or.inl rfl) (pe_op op_cat (pv 12) (pe_lst (pa_cons (pe_ifExp (pt_cmpR op_gt (pe_callB call_len_seq rfl T.m_len PySem.boot_len (pa_cons (pv 12) pa_nil)) pe_int (nomark _)) (pe_ix ix_list (pv 12) pe_int (fun _ _ => rfl)) (pe_callB call_len_seq rfl T.m_len PySem.boot_len (pa_cons (pv 4) pa_nil))) pa_nil))))) pss_nil)
      (pss_cons (ps_set (i := 13) sc_law.nd rfl (Or.inl rfl) (pe_make T.k_Day (ok_Day___init T) (hr.mono (by decide)) rfl T.m_Day T.b_Day___init .nil passL (pa_cons (pv 1) (pa_cons (pv 2) (pa_cons (pv 3) (pa_cons (pe_callTy call_list_of rfl T.m_list (by decide +kernel) (pa_cons (pe_ix ix_list (pe_lst (pa_cons (pv 4) (pa_cons (pv 5) pa_nil))) (pe_op op_mod (pv 11) pe_int) (fun _ _ => rfl)) pa_nil)) pa_nil))))))
      (pss_cons (ps_set (i := 14) sc_law.nd rfl (Or.inl rfl) (pe_call (ok_law_answer T) hr rfl T.m_law_answer T.F_law_answer.kp T.b_law_answer .nil pass0 (pa_cons (pv 13) (pa_cons (pe_callTy call_list_of rfl T.m_list (by decide +kernel) (pa_cons (pv 12) pa_nil)) (pa_cons (pe_op op_mod (pe_op op_fdiv (pv 11) pe_int) pe_int) pa_nil)))))
      (pss_cons (ps_expr (pe_bm0 PySem.F.plainAttrs_list PySem.F.slot_list_clear PySem.F.type_list_clear mt_clear (pv 10)))
      (pss_cons (ps_expr (pe_bm PySem.F.plainAttrs_list PySem.F.slot_list_extend PySem.F.type_list_extend mt_extend (pv 10) (pa_cons (pv 12) pa_nil)))
      (pss_cons (ps_set (i := 15) sc_law.nd rfl (Or.inl rfl) (pe_call (ok_law_answer T) hr rfl T.m_law_answer T.F_law_answer.kp T.b_law_answer .nil pass0 (pa_cons (pe_ix ix_list (pv 8) (pe_op op_mod (pv 11) pe_int) (fun _ _ => rfl)) (pa_cons (pe_ix ix_list (pe_lst (pa_cons (pv 10) (pa_cons (pe_callTy call_list_of rfl T.m_list (by decide +kernel) (pa_cons (pv 12) pa_nil)) pa_nil))) (pe_op op_mod (pe_call (ok2_law_cell_at T) (hr.mono (by decide)) rfl T.m_law_cell_at T.F_law_cell_at.kp T.b_law_cell_at .nil pass0 (pa_cons (pv 0) (pa_cons pe_int pa_nil))) pe_int) (fun _ _ => rfl)) (pa_cons (pe_op op_mod (pe_op op_fdiv (pv 11) pe_int) pe_int) pa_nil)))))
      (pss_cons (ps_if (pt_cmpR (op_neAny (room65 hr)) (pv 15) (pv 14) (nomark _)) (pss_one (ps_ret pe_bl)) pss_nil)
      (pss_one (ps_if (pt_cmpR op_eq (pe_op op_mod (pe_call (ok2_law_cell_at T) (hr.mono (by decide)) rfl T.m_law_cell_at T.F_law_cell_at.kp T.b_law_cell_at .nil pass0 (pa_cons (pv 0) (pa_cons pe_int pa_nil))) pe_int) pe_int (nomark _)) (pss_one (ps_expr (pe_bm PySem.F.plainAttrs_list PySem.F.slot_list_append PySem.F.type_list_append mt_append (pv 9) (pa_cons (pe_tup (pa_cons (pv 15) (pa_cons (pv 14) pa_nil))) pa_nil)))) (pss_one (ps_expr (pe_call (ok_law_changed T) (hr.mono (by decide)) rfl T.m_law_changed T.F_law_changed.kp T.b_law_changed .nil pass0 (pa_cons (pv 15) pa_nil))))))))))))))))
    (pss_cons (ps_for PassesOwn.never rfl (pi_list (pv 9)) (pg_tup rfl (pgs_cons (pg_name (i := 16) sc_law.nd rfl (Or.inl rfl)) (pgs_cons (pg_name (i := 17) sc_law.nd rfl (Or.inl rfl)) pgs_nil)))
      (pss_one (ps_if (pt_cmpR (op_neAny (room65 hr)) (pv 16) (pv 17) (nomark _)) (pss_one (ps_ret pe_bl)) pss_nil)))
    (pss_cons (ps_set (i := 18) sc_law.nd rfl (Or.inl rfl) (pe_lst (pa_cons (pe_tup (pa_cons (pe_ix ix_list (pv 8) pe_int (fun _ _ => rfl)) (pa_cons (pv 4) pa_nil))) (pa_cons (pe_tup (pa_cons (pe_ix ix_list (pv 8) pe_int (fun _ _ => rfl)) (pa_cons (pv 5) pa_nil))) pa_nil))))
    (pss_one (ps_ret (pe_and (pe_call (ok_law_times_right T) (hr.mono (by decide)) rfl T.m_law_times_right T.F_law_times_right.kp T.b_law_times_right .nil pass0 (pa_cons (pv 1) (pa_cons (pv 2) (pa_cons (pv 3) (pa_cons (pv 18) pa_nil))))) (pe_and (pe_cmpR (op_eqD hr.units) (pe_fld (pe_ix ix_list (pv 8) pe_int (fun _ _ => rfl)) rfl) (pv 4) (nomark _)) (pe_one (pe_cmpR (op_eqD hr.units) (pe_fld (pe_ix ix_list (pv 8) pe_int (fun _ _ => rfl)) rfl) (pv 5) (nomark _)))))))))))))))))))))), ?_⟩
  dsimp only [L2.cxOf, L2.Cx.nox]
  walk_at "go"
  refine ⟨a, ns, 0, rfl, hS, hn, fun c0 _ => ?_⟩
  walk_at "go"
  intro ring len r H1 l1 l2 e1 fr hr0
  have hR1 : SqT K H1 r (roadV ring len) := SqT.of hr0
  walk_at "go"
  refine ⟨a, ns, 1, rfl, Evl.ex_l e1 hS, hn, fun c1 _ => ?_⟩
  walk_at "go"
  refine ⟨r, ring, len, c1, rfl, hR1, l1, fun home H2 h0 h1 e2 => ?_⟩
  have e12 := e1.trans e2
  have hR2 := Evl.ex_t e2 hR1
  walk_at "go"
  refine ⟨a, ns, 2, rfl, Evl.ex_l e12 hS, hn, fun c2 _ => ?_⟩
  walk_at "go"
  refine ⟨r, ring, len, c2, rfl, hR2, l1, l2, fun start s0 s1 => ?_⟩
  walk_at "go"
  refine ⟨a, ns, 3, rfl, Evl.ex_l e12 hS, hn, fun c3 _ => ?_⟩
  walk_at "go"
  intro many hm7
  walk_at "go"
  refine ⟨r, a, ring, len, start, _, ns, rfl, hR2, l1, l2, s0, s1, Evl.ex_l e12 hS, hn, by omega, by omega, fun sts ps sl H3 lst gd e3 fsl hsl hP3 => ?_⟩
  have e13 := e12.trans e3
  have lps : (ps.map V.ref).length = sts.length := by rw [List.length_map]; exact hP3.len
  have hR3 := Evl.ex_t e3 hR2
  have hsls : SqL K H3 sl (ps.map V.ref) := SqL.of hsl
  have h7 : sts.length ≤ 7 := by omega
  have gday : GoodDay ring len home start sts := ⟨l1, l2, ⟨h0, h1⟩, ⟨s0, s1⟩, gd, h7⟩
  walk_at "go"
  intro ol fol
  refine lc_range (lo := 0) (n := (ps.map V.ref).length) (fun i H' => Ex H3 H' ∧ H' ol = some (.lst ((ps.reverse.take i).map V.ref))) ⟨Evl.Ex.new fol, upd_same⟩ ?_ ?_
  · rintro i H' hi ⟨et, hd⟩
    rw [List.length_map] at hi
    obtain ⟨p, hz, hr⟩ := turn_ref hi
    have hg' : SqL K H' sl (ps.map V.ref) := SqL.of (et _ _ hsl)
    have hlp : ps.length ≤ 7 := by rw [List.length_map] at lps; omega
    walk_at "go"
    refine ⟨_, hd, Evl.sz_lt ?_, Evl.Ex.mut et fol, ?_⟩
    · rw [List.length_map, List.length_take]
      omega
    · rw [upd_same, List.take_succ, hr, List.map_append]
      rfl
  rintro H4 ⟨e34, hol⟩
  have all : ps.reverse.take (ps.map V.ref).length = ps.reverse := by rw [List.length_map, ← List.length_reverse (as := ps), List.take_length]
  rw [all] at hol
  have e14 := e13.trans e34
  have hR4 := Evl.ex_t e34 hR3
  have hsl4 := e34 _ _ hsl
  have hP4 := hP3.ex e34
  have hS4 := Evl.ex_l e14 hS
  have hSl4 : SqL K H4 sl (ps.map V.ref) := SqL.of hsl4
  have hOl4 : SqL K H4 ol (ps.reverse.map V.ref) := SqL.of hol
  walk_at "go"
  intro u0 fu0
  have e45 := Evl.Ex.new (o := .lst (ps.map V.ref)) fu0
  have hu0 : (upd H4 u0 (.lst (ps.map V.ref))) u0 = some (.lst (ps.map V.ref)) := upd_same
  generalize upd H4 u0 (.lst (ps.map V.ref)) = H5 at e45 hu0
  have hOl5 := Evl.ex_l e45 hOl4
  walk_at "go"
  intro u1 fu1
  have e56 := Evl.Ex.new (o := .lst (ps.reverse.map V.ref)) fu1
  have hu1 : (upd H5 u1 (.lst (ps.reverse.map V.ref))) u1 = some (.lst (ps.reverse.map V.ref)) := upd_same
  generalize upd H5 u1 (.lst (ps.reverse.map V.ref)) = H6 at e56 hu1
  walk_at "go"
  intro ud fud
  have e67 := Evl.Ex.new (o := .lst [.ref u0, .ref u1]) fud
  have hud : (upd H6 ud (.lst [.ref u0, .ref u1])) ud = some (.lst [.ref u0, .ref u1]) := upd_same
  generalize upd H6 ud (.lst [.ref u0, .ref u1]) = H7 at e67 hud
  have e47 := (e45.trans e56).trans e67
  have hR7 := Evl.ex_t e47 hR4
  have hP7 := hP4.ex e47
  have hu07 := (e56.trans e67) _ _ hu0
  have hu17 := e67 _ _ hu1
  have hUd7 : SqL K H7 ud [.ref u0, .ref u1] := SqL.of hud
  walk_at "go"
  intro x dx hx hdx ne
  have e7x : Ex H7 (upd (upd H7 dx (.own x)) x (.ins (He.ga K "Day") dx [])) := (Evl.Ex.new hdx).trans (Evl.Ex.new (by rw [upd_ne (Ne.symm ne)]; exact hx))
  refine ⟨x, dx, r, u0, wordOf ring, len, home, start, ps, sts, (), rfl, upd_same, Evl.ex_t e7x hR7, Evl.ex_l e7x (SqL.of hu07), hP7.ex e7x, fun z la H8 keep fra hd hla => ⟨rfl, ?_⟩, fun f z => (by rw [gday.flt] at z; cases z)⟩
  have e78 : Ex H7 H8 := fun b o hb => keep b o (ne_of_none hb hx) (e7x b o hb)
  have dayA : DayAt K H8 x r la (wordOf ring) len home start ps sts := ⟨⟨dx, hd⟩, Evl.ex_t e78 hR7, hla, hP7.ex e78⟩
  have fla : H7 la = none := none_of_ex e7x fra
  have hR8 := Evl.ex_t e78 hR7
  have hP8 := hP7.ex e78
  have hu18 := e78 _ _ hu17
  have hUd8 := Evl.ex_l e78 hUd7
  clear keep hd hla e7x hx hdx ne fra
  walk_at "go"
  intro y dy hy hdy ne
  have e8y : Ex H8 (upd (upd H8 dy (.own y)) y (.ins (He.ga K "Day") dy [])) := (Evl.Ex.new hdy).trans (Evl.Ex.new (by rw [upd_ne (Ne.symm ne)]; exact hy))
  refine ⟨y, dy, r, u1, wordOf ring, len, home, start, ps.reverse, sts.reverse, (), rfl, upd_same, Evl.ex_t e8y hR8, Evl.ex_l e8y (SqL.of hu18), hP8.rev.ex e8y, fun z lb H9 keep frb hd hlb => ⟨rfl, ?_⟩, fun f z => (by rw [gday.rev.flt] at z; cases z)⟩
  have e89 : Ex H8 H9 := fun b o hb => keep b o (ne_of_none hb hy) (e8y b o hb)
  have dayB : DayAt K H9 y r lb (wordOf ring) len home start ps.reverse sts.reverse := ⟨⟨dy, hd⟩, Evl.ex_t e89 hR8, hlb, hP8.rev.ex e89⟩
  have flb : H8 lb = none := none_of_ex e8y frb
  have flb7 : H7 lb = none := none_of_ex e78 flb
  clear keep hd hlb e8y hy hdy ne frb
  walk_at "go"
  intro dl fdl
  have e9A := Evl.Ex.new (o := .lst [.ref x, .ref y]) fdl
  have hdl : (upd H9 dl (.lst [.ref x, .ref y])) dl = some (.lst [.ref x, .ref y]) := upd_same
  have e7A := (e78.trans e89).trans e9A
  have fdl7 : H7 dl = none := none_of_ex (e78.trans e89) fdl
  have dayA0 := dayA.ex (e89.trans e9A)
  have dayB0 := dayB.ex e9A
  have nla : la ≠ dl := by
    obtain ⟨_, _, z, _⟩ := dayA.ex e89
    exact ne_of_none z fdl
  have nlb : lb ≠ dl := by
    obtain ⟨_, _, z, _⟩ := dayB
    exact ne_of_none z fdl
  generalize upd H9 dl (.lst [.ref x, .ref y]) = HA at e9A hdl e7A dayA0 dayB0
  clear dayA dayB
  walk_at "go"
  refine ⟨fun σ' H' => ∃ (d0 d1 r0 r1 l0 l1 : Addr) (ps0 ps1 : List Addr) (x6 x9 x10 x11 x12 x13 x14 x15 x16 x17 x18 : Option V), σ' = [some (.ref a), some (.ref r), some (.int home), some (.int start), some (.ref sl), some (.ref ol), x6, some (.ref ud), some (.ref dl), x9, x10, x11, x12, x13, x14, x15, x16, x17, x18] ∧ Ex H7 H' ∧ H' dl = some (.lst [.ref d0, .ref d1]) ∧ DayAt K H' d0 r0 l0 (wordOf ring) len home start ps0 sts ∧ DayAt K H' d1 r1 l1 (wordOf ring) len home start ps1 sts.reverse ∧ H7 l0 = none ∧ H7 l1 = none, ?_, ?_⟩
  · have hSA := Evl.ex_l (e47.trans e7A) hS4
    have hdls : SqL K HA dl [.ref x, .ref y] := SqL.of hdl
    generalize hcc : cellAt ns 43 = cc
    walk_at "go"
    refine ⟨a, ns, 43, rfl, hSA, hn, fun w0 q0 => ?_⟩
    rw [hcc] at q0
    subst q0
    walk_at "go"
    refine iteB (fun c => ?_) (fun c => ?_)
    · walk_at "go"
      refine ⟨a, ns, 43, rfl, hSA, hn, fun w1 q1 => ?_⟩
      rw [hcc] at q1
      subst q1
      have k0 := Int.emod_nonneg (w1 / 2) (show (2 : Int) ≠ 0 by decide)
      have k1 := Int.emod_lt_of_pos (w1 / 2) (show (0 : Int) < 2 by decide)
      rcases (show w1 / 2 % 2 = 0 ∨ w1 / 2 % 2 = 1 by omega) with ck | ck
      · have at0 : atI [V.ref x, V.ref y] (w1 / 2 % 2) = some (.ref x) := by rw [ck]; rfl
        walk_at "go"
        refine ⟨x, r, la, ring, len, home, start, ps, sts, rfl, dayA0, gday, fun HB eAB => ?_⟩
        walk_at "go"
        refine ⟨ring, len, home, start, sts, (), (), rfl, gday, fun d r' l' ps' HC eBC fd fl day hr hpl => ?_⟩
        have eAC := eAB.trans eBC
        have hdlC := eAC _ _ hdl
        have fl' : HA l' = none := none_of_ex eAB fl
        walk_at "go"
        refine ⟨a, ns, 43, rfl, Evl.ex_l eAC hSA, hn, fun w2 q2 => ?_⟩
        rw [hcc] at q2
        subst q2
        walk_at "go"
        refine ⟨dl, _, _, 0, rfl, rfl, hdlC, (by show ixN 2 (w2 / 2 % 2) = some 0; rw [ck]; rfl), ?_⟩
        exact ⟨d, y, r', r, l', lb, ps', ps.reverse, _, _, _, _, _, _, _, _, _, _, _, rfl, Evl.Ex.mut (e7A.trans eAC) fdl7, upd_same, day.at_lst hdlC (fun z => by rw [z, hdl] at fl'; cases fl'), (dayB0.ex eAC).at_lst hdlC nlb, none_of_ex e7A fl', flb7⟩
      · have at1 : atI [V.ref x, V.ref y] (w1 / 2 % 2) = some (.ref y) := by rw [ck]; rfl
        walk_at "go"
        refine ⟨y, r, lb, ring, len, home, start, ps.reverse, sts.reverse, rfl, dayB0, gday.rev, fun HB eAB => ?_⟩
        walk_at "go"
        refine ⟨ring, len, home, start, sts.reverse, (), (), rfl, gday.rev, fun d r' l' ps' HC eBC fd fl day hr hpl => ?_⟩
        have eAC := eAB.trans eBC
        have hdlC := eAC _ _ hdl
        have fl' : HA l' = none := none_of_ex eAB fl
        walk_at "go"
        refine ⟨a, ns, 43, rfl, Evl.ex_l eAC hSA, hn, fun w2 q2 => ?_⟩
        rw [hcc] at q2
        subst q2
        walk_at "go"
        refine ⟨dl, _, _, 1, rfl, rfl, hdlC, (by show ixN 2 (w2 / 2 % 2) = some 1; rw [ck]; rfl), ?_⟩
        exact ⟨x, d, r, r', la, l', ps, ps', _, _, _, _, _, _, _, _, _, _, _, rfl, Evl.Ex.mut (e7A.trans eAC) fdl7, upd_same, (dayA0.ex eAC).at_lst hdlC nla, day.at_lst hdlC (fun z => by rw [z, hdl] at fl'; cases fl'), fla, none_of_ex e7A fl'⟩
    · walk_at "go"
      exact ⟨x, y, r, r, la, lb, ps, ps.reverse, _, _, _, _, _, _, _, _, _, _, _, rfl, e7A, hdl, dayA0, dayB0, fla, flb7⟩
  rintro σ' HE ⟨d0, d1, r0, r1, l0, l1', ps0, ps1, x6, x9, x10, x11, x12, x13, x14, x15, x16, x17, x18, rfl, e7E, hdlE, dayA, dayB, fl0, fl1⟩
  have hu0E := e7E _ _ hu07
  have hUdE := Evl.ex_l e7E hUd7
  walk_at "go"
  refine ⟨Or.inl ⟨rfl, _, SqL.of hu0E⟩, ?_⟩
  walk_at "go"
  refine ⟨u0, _, rfl, rfl, hu0E, ?_⟩
  have n0dl : l0 ≠ u0 := fun z => by rw [z, hu07] at fl0; cases fl0
  have n1dl : l1' ≠ u0 := fun z => by rw [z, hu07] at fl1; cases fl1
  have nd0 : dl ≠ u0 := fun z => by rw [z, hu07] at fdl7; cases fdl7
  have m0l : l0 ≠ u1 := fun z => by rw [z, hu17] at fl0; cases fl0
  have m1l : l1' ≠ u1 := fun z => by rw [z, hu17] at fl1; cases fl1
  have nd1 : dl ≠ u1 := fun z => by rw [z, hu17] at fdl7; cases fdl7
  have nu : u0 ≠ u1 := fun z => by rw [← z, hu0] at fu1; cases fu1
  have nud0 : u0 ≠ ud := ne_of_none (e56 _ _ hu0) fud
  have nud1 : u1 ≠ ud := ne_of_none hu1 fud
  have e4E := e47.trans e7E
  have e4F : Ex H4 (upd HE u0 (.lst [])) := Evl.Ex.mut e4E fu0
  have hdlF : (upd HE u0 (.lst [])) dl = some (.lst [.ref d0, .ref d1]) := by rw [upd_ne nd0]; exact hdlE
  have dayAF := dayA.at_lst (o := .lst []) hu0E n0dl
  have dayBF := dayB.at_lst (o := .lst []) hu0E n1dl
  have hu1F : (upd HE u0 (.lst [])) u1 = some (.lst (ps.reverse.map V.ref)) := by rw [upd_ne (Ne.symm nu)]; exact e7E _ _ hu17
  have hudF : (upd HE u0 (.lst [])) ud = some (.lst [.ref u0, .ref u1]) := by rw [upd_ne (Ne.symm nud0)]; exact e7E _ _ hud
  generalize upd HE u0 (.lst []) = HF at e4F hdlF dayAF dayBF hu1F hudF
  have hUdF : SqL K HF ud [.ref u0, .ref u1] := SqL.of hudF
  walk_at "go"
  refine ⟨Or.inl ⟨rfl, _, SqL.of hu1F⟩, ?_⟩
  walk_at "go"
  intro tz ftz
  have eFz := Evl.Ex.new (o := .tup [.int 0, .int 0, .int 0, .int 0]) ftz
  have hu1z := eFz _ _ hu1F
  have hdlz := eFz _ _ hdlF
  have fu1H4 : H4 u1 = none := none_of_ex e45 fu1
  refine ⟨u1, _, _, rfl, rfl, hu1z, Evl.sz_lt (by rw [List.length_map, List.length_reverse]; have : ps.length = sts.length := hP3.len; omega), ?_⟩
  have e4G : Ex H4 (upd (upd HF tz (.tup [.int 0, .int 0, .int 0, .int 0])) u1 (.lst (ps.reverse.map V.ref ++ [.ref tz]))) := Evl.Ex.mut (e4F.trans eFz) fu1H4
  have hdlG : (upd (upd HF tz (.tup [.int 0, .int 0, .int 0, .int 0])) u1 (.lst (ps.reverse.map V.ref ++ [.ref tz]))) dl = some (.lst [.ref d0, .ref d1]) := by rw [upd_ne nd1]; exact hdlz
  have dayAG := (dayAF.ex eFz).at_lst (o := .lst (ps.reverse.map V.ref ++ [.ref tz])) hu1z m0l
  have dayBG := (dayBF.ex eFz).at_lst (o := .lst (ps.reverse.map V.ref ++ [.ref tz])) hu1z m1l
  generalize upd (upd HF tz (.tup [.int 0, .int 0, .int 0, .int 0])) u1 (.lst (ps.reverse.map V.ref ++ [.ref tz])) = HG at e4G hdlG dayAG dayBG
  clear dayAF dayBF dayA dayB hu1F hudF hUdF hu1z hdlz hdlF hUdE hu0E
  have hSG := Evl.ex_l e4G hS4
  have hslG := e4G _ _ hsl4
  have holG := e4G _ _ hol
  have hRG := Evl.ex_t e4G hR4
  have hPG := hP4.ex e4G
  walk_at "go"
  intro hd fhd
  have eGh := Evl.Ex.new (o := .lst []) fhd
  have hhd : (upd HG hd (.lst [])) hd = some (.lst (([] : List Addr).map V.ref)) := upd_same
  generalize upd HG hd (.lst []) = HI at eGh hhd
  walk_at "go"
  intro one fone
  have fone' : HG one = none := none_of_ex eGh fone
  have nho : hd ≠ one := ne_of_none hhd fone
  have eGo := eGh.trans (Evl.Ex.new (o := .lst []) fone)
  have hhd0 : (upd HI one (.lst [])) hd = some (.lst (([] : List Addr).map V.ref)) := by rw [upd_ne nho]; exact hhd
  have hone0 : (upd HI one (.lst [])) one = some (.lst []) := upd_same
  generalize upd HI one (.lst []) = HJ at eGo hhd0 hone0
  have lq : ps.length = sts.length := hP3.len
  have each : ∀ c : Int, ∃ (zl dz rz lz : Addr) (qs pz : List Addr) (zs : List Stp), atI [V.ref sl, V.ref ol] (c % 2) = some (.ref zl) ∧ atI [V.ref d0, V.ref d1] (c % 2) = some (.ref dz) ∧ HG zl = some (.lst (qs.map V.ref)) ∧ StopsR K HG qs zs ∧ GoodDay ring len home start zs ∧ DayAt K HG dz rz lz (wordOf ring) len home start pz zs := fun c => by
    have k0 := Int.emod_nonneg c (show (2 : Int) ≠ 0 by decide)
    have k1 := Int.emod_lt_of_pos c (show (0 : Int) < 2 by decide)
    rcases (show c % 2 = 0 ∨ c % 2 = 1 by omega) with ck | ck
    · rw [ck]
      exact ⟨sl, d0, r0, l0, ps, ps0, sts, rfl, rfl, hslG, hPG, gday, dayAG⟩
    · rw [ck]
      exact ⟨ol, d1, r1, l1', ps.reverse, ps1, sts.reverse, rfl, rfl, holG, hPG.rev, gday.rev, dayBG⟩
  walk_at "go"
  refine ⟨a, ns, 28, rfl, Evl.ex_l eGo hSG, hn, fun c28 _ => ?_⟩
  have k0 := Int.emod_nonneg c28 (show (6 : Int) ≠ 0 by decide)
  have k1 := Int.emod_lt_of_pos c28 (show (0 : Int) < 6 by decide)
  walk_at "go"
  refine for_range (lo := 0) (n := (2 + c28 % 6).toNat) (fun i σ H' => ∃ (x6 x11 x12 x13 x14 x15 x16 x17 x18 : Option V) (tps : List Addr) (xs : List V), σ = [some (.ref a), some (.ref r), some (.int home), some (.int start), some (.ref sl), some (.ref ol), x6, some (.ref ud), some (.ref dl), some (.ref hd), some (.ref one), x11, x12, x13, x14, x15, x16, x17, x18] ∧ Ex HG H' ∧ H' hd = some (.lst (tps.map V.ref)) ∧ H' one = some (.lst xs) ∧ HeldR P w (fun p => p ≠ hd ∧ p ≠ one) H' tps ∧ tps.length ≤ i) ⟨_, _, _, _, _, _, _, _, _, [], [], rfl, eGo, hhd0, hone0, (fun p hp => by cases hp), Nat.le_refl _⟩ ?_ ?_
  · rintro i σ K1 hi ⟨x6, x11, x12, x13, x14, x15, x16, x17, x18, tps, xs, rfl, g1, hh1, ho1, hr1, lt1⟩
    have hS1 := Evl.ex_l g1 hSG
    have hSl1 : SqL K K1 sl (ps.map V.ref) := SqL.of (g1 _ _ hslG)
    walk_at "go"
    refine ⟨a, ns, _, rfl, hS1, hn, fun cell _ => ?_⟩
    walk_at "go"
    refine ⟨a, (ps.map V.ref).length, _, ns, rfl, hS1, hn, by omega, fun o os K2 oko lo e12' fo ho2 => ?_⟩
    walk_at "go"
    have hO2 : SqL K K2 o (os.map V.int) := SqL.of ho2
    have los : (os.map V.int).length = os.length := List.length_map _
    have g2 := g1.trans e12'
    have hSl2 : SqL K K2 sl (ps.map V.ref) := SqL.of (g2 _ _ hslG)
    refine ⟨fun σ' K3 => ∃ (x13 x14 x15 x16 x17 x18 : Option V) (o : Addr) (os : List Int), σ' = [some (.ref a), some (.ref r), some (.int home), some (.int start), some (.ref sl), some (.ref ol), some (.int (0 + (i : Int))), some (.ref ud), some (.ref dl), some (.ref hd), some (.ref one), some (.int cell), some (.ref o), x13, x14, x15, x16, x17, x18] ∧ Ex K1 K3 ∧ K1 o = none ∧ K3 o = some (.lst (os.map V.int)) ∧ os.length ≤ 8, ?_, ?_⟩
    · walk_at "go"
      refine iteB (fun c => ?_) (fun c => ?_)
      · walk_at "go"
        refine iteB (fun c2 => ?_) (fun c2 => ?_)
        · have c3 := odt c2
          have hos : 0 < os.length := by omega
          obtain ⟨n, hn0⟩ : ∃ n, os[0]? = some n := ⟨os[0], List.getElem?_eq_getElem hos⟩
          have at0 : atI (os.map V.int) 0 = some (.int n) := atI_nat (j := 0) (by rw [List.getElem?_map, hn0]; rfl)
          walk_at "go"
          intro p1 hp1
          have ho21 := (Evl.Ex.new (o := .lst [.int n]) hp1) _ _ ho2
          have hq1 : (upd K2 p1 (.lst [.int n])) p1 = some (.lst [.int n]) := upd_same
          have e1p := e12'.trans (Evl.Ex.new (o := .lst [.int n]) hp1)
          have so : (os.map V.int).length + ([V.int n] : List V).length ≤ sizeLine := Evl.sz_of (by show (os.map V.int).length + 1 ≤ 100000; omega)
          walk_at "go"
          intro p2 hp2
          refine ⟨_, _, _, _, _, _, p2, os ++ [n], rfl, e1p.trans (Evl.Ex.new hp2), none_of_ex e1p hp2, ?_, (by rw [List.length_append]; show os.length + 1 ≤ 8; omega)⟩
          rw [upd_same, List.map_append]
          rfl
        · have c3 := odf c2
          walk_at "go"
          intro p1 hp1
          have ho21 := (Evl.Ex.new (o := .lst [.int ((ps.map V.ref).length : Nat)]) hp1) _ _ ho2
          have hq1 : (upd K2 p1 (.lst [.int ((ps.map V.ref).length : Nat)])) p1 = some (.lst [.int ((ps.map V.ref).length : Nat)]) := upd_same
          have e1p := e12'.trans (Evl.Ex.new (o := .lst [.int ((ps.map V.ref).length : Nat)]) hp1)
          have so : (os.map V.int).length + ([V.int ((ps.map V.ref).length : Nat)] : List V).length ≤ sizeLine := Evl.sz_of (by show (os.map V.int).length + 1 ≤ 100000; omega)
          walk_at "go"
          intro p2 hp2
          refine ⟨_, _, _, _, _, _, p2, os ++ [(((ps.map V.ref).length : Nat) : Int)], rfl, e1p.trans (Evl.Ex.new hp2), none_of_ex e1p hp2, ?_, (by rw [List.length_append]; show os.length + 1 ≤ 8; omega)⟩
          rw [upd_same, List.map_append]
          rfl
      · walk_at "go"
        exact ⟨_, _, _, _, _, _, o, os, rfl, e12', fo, ho2, by omega⟩
    rintro σ' K3 ⟨x13, x14, x15, x16, x17, x18, o, os, rfl, e13', fo, ho3, lo⟩
    have g3 := g1.trans e13'
    obtain ⟨zl, dz, rz, lz, qs, pz, zs, at1, at2, hzl, hPz, gz, dayz⟩ := each cell
    have kk0 := Int.emod_nonneg (cell / 2) (show (7 : Int) ≠ 0 by decide)
    have kk1 := Int.emod_lt_of_pos (cell / 2) (show (0 : Int) < 7 by decide)
    have hh3 := e13' _ _ hh1
    have hx3 := e13' _ _ ho1
    have hr3 := hr1.ex e13'
    have noo : o ≠ one := fun z => by rw [z, ho1] at fo; cases fo
    walk_at "go"
    intro t0 ft0
    have q34 := Evl.Ex.new (o := .lst [.ref sl, .ref ol]) ft0
    have ht0 : SqL K (upd K3 t0 (.lst [.ref sl, .ref ol])) t0 [.ref sl, .ref ol] := SqL.of upd_same
    generalize upd K3 t0 (.lst [.ref sl, .ref ol]) = K4 at q34 ht0
    have hzl4 : SqL K K4 zl (qs.map V.ref) := SqL.of ((g3.trans q34) _ _ hzl)
    walk_at "go"
    intro t1 ft1
    have q35 := q34.trans (Evl.Ex.new (o := .lst (qs.map V.ref)) ft1)
    have ht1 : (upd K4 t1 (.lst (qs.map V.ref))) t1 = some (.lst (qs.map V.ref)) := upd_same
    generalize upd K4 t1 (.lst (qs.map V.ref)) = K5 at q35 ht1
    have hR5 := Evl.ex_t (g3.trans q35) hRG
    have hP5 := hPz.ex (g3.trans q35)
    walk_at "go"
    intro xa dxa hxa hdxa nea
    have e5x : Ex K5 (upd (upd K5 dxa (.own xa)) xa (.ins (He.ga K "Day") dxa [])) := (Evl.Ex.new hdxa).trans (Evl.Ex.new (by rw [upd_ne (Ne.symm nea)]; exact hxa))
    refine ⟨xa, dxa, r, t1, wordOf ring, len, home, start, qs, zs, (), rfl, upd_same, Evl.ex_t e5x hR5, Evl.ex_l e5x (SqL.of ht1), hP5.ex e5x, fun z ln K6 keep frn hdn hln => ⟨rfl, ?_⟩, fun f z => (by rw [gz.flt] at z; cases z)⟩
    have e56n : Ex K5 K6 := fun b o hb => keep b o (ne_of_none hb hxa) (e5x b o hb)
    have dayN : DayAt K K6 xa r ln (wordOf ring) len home start qs zs := ⟨⟨dxa, hdn⟩, Evl.ex_t e56n hR5, hln, hP5.ex e56n⟩
    have q36 := q35.trans e56n
    clear keep hdn hln e5x hxa hdxa nea frn
    have hO6 : SqL K K6 o (os.map V.int) := SqL.of (q36 _ _ ho3)
    walk_at "go"
    intro t2 ft2
    have q67 := Evl.Ex.new (o := .lst (os.map V.int)) ft2
    have ht2 : (upd K6 t2 (.lst (os.map V.int))) t2 = some (.lst (os.map V.int)) := upd_same
    generalize upd K6 t2 (.lst (os.map V.int)) = K7 at q67 ht2
    have q37 := q36.trans q67
    walk_at "go"
    refine ⟨xa, t2, r, ln, ring, len, home, start, _, qs, zs, os, (), (), (), rfl, dayN.ex q67, SqL.of ht2, by omega, gz, kk0, by omega, fun due K8 q78 ad => ?_⟩
    have q38 := q37.trans q78
    have ad8 : AnsR P w (fun p => p ≠ hd ∧ p ≠ one) K8 due (ansOf ring len home start zs os (cell / 2 % 7)) := AnsR.imp (F := fun p => K7 p = none) (G := fun p => p ≠ hd ∧ p ≠ one) (fun p (hp : K7 p = none) => ⟨fun z => (by rw [z, q37 _ _ hh3] at hp; cases hp), fun z => (by rw [z, q37 _ _ hx3] at hp; cases hp)⟩) ad
    have hh8 := q38 _ _ hh3
    have hx8 := q38 _ _ hx3
    have hr8 := hr3.ex q38
    have ho8 := q38 _ _ ho3
    have g8 := g3.trans q38
    clear ad dayN hO6 ht2 ht1 hP5 hR5 hzl4 ht0
    walk_at "go"
    refine ⟨Or.inl ⟨rfl, _, SqL.of hx8⟩, ?_⟩
    walk_at "go"
    refine ⟨one, _, rfl, rfl, hx8, ?_⟩
    have g9 : Ex HG (upd K8 one (.lst [])) := Evl.Ex.mut g8 fone'
    have hh9 : (upd K8 one (.lst [])) hd = some (.lst (tps.map V.ref)) := by rw [upd_ne nho]; exact hh8
    have hx9 : (upd K8 one (.lst [])) one = some (.lst []) := upd_same
    have hr9 := hr8.put (o := .lst []) hx8 (fun _ z => z.2)
    have ho9 : (upd K8 one (.lst [])) o = some (.lst (os.map V.int)) := by rw [upd_ne noo]; exact ho8
    have ad9 := ad8.put (o := .lst []) hx8 (fun _ z => z.2)
    generalize upd K8 one (.lst []) = K9 at g9 hh9 hx9 hr9 ho9 ad9
    walk_at "go"
    refine ⟨Or.inl ⟨rfl, _, SqL.of hx9⟩, ?_⟩
    have so9 : ([] : List V).length + (os.map V.int).length ≤ sizeLine := Evl.sz_of (by show 0 + (os.map V.int).length ≤ 100000; rw [List.length_map]; omega)
    walk_at "go"
    have g10 : Ex HG (upd K9 one (.lst ([] ++ os.map V.int))) := Evl.Ex.mut g9 fone'
    have hh10 : (upd K9 one (.lst ([] ++ os.map V.int))) hd = some (.lst (tps.map V.ref)) := by rw [upd_ne nho]; exact hh9
    have hx10 : (upd K9 one (.lst ([] ++ os.map V.int))) one = some (.lst (os.map V.int)) := upd_same
    have hr10 := hr9.put (o := .lst ([] ++ os.map V.int)) hx9 (fun _ z => z.2)
    have ho10 : (upd K9 one (.lst ([] ++ os.map V.int))) o = some (.lst (os.map V.int)) := by rw [upd_ne noo]; exact ho9
    have ad10 := ad9.put (o := .lst ([] ++ os.map V.int)) hx9 (fun _ z => z.2)
    generalize upd K9 one (.lst ([] ++ os.map V.int)) = K10 at g10 hh10 hx10 hr10 ho10 ad10
    have hdl10 : SqL K K10 dl [.ref d0, .ref d1] := SqL.of (g10 _ _ hdlG)
    have hO10 : SqL K K10 o (os.map V.int) := SqL.of ho10
    walk_at "go"
    intro t3 ft3
    have q1 := Evl.Ex.new (o := .lst (os.map V.int)) ft3
    have ht3 : (upd K10 t3 (.lst (os.map V.int))) t3 = some (.lst (os.map V.int)) := upd_same
    generalize upd K10 t3 (.lst (os.map V.int)) = K11 at q1 ht3
    walk_at "go"
    intro t4 ft4
    have q2 := Evl.Ex.new (o := .lst [.ref one, .ref t3]) ft4
    have ht4 : SqL K (upd K11 t4 (.lst [.ref one, .ref t3])) t4 [.ref one, .ref t3] := SqL.of upd_same
    generalize upd K11 t4 (.lst [.ref one, .ref t3]) = K12 at q2 ht4
    have q12 := q1.trans q2
    have g12 := g10.trans q12
    walk_at "go"
    refine ⟨a, ns, 45, rfl, Evl.ex_l g12 hSG, hn, fun c45 _ => ?_⟩
    obtain ⟨ox, at3, hox⟩ : ∃ ox, atI [V.ref one, V.ref t3] (c45 % 2) = some (.ref ox) ∧ K12 ox = some (.lst (os.map V.int)) := by
      have k0 := Int.emod_nonneg c45 (show (2 : Int) ≠ 0 by decide)
      have k1 := Int.emod_lt_of_pos c45 (show (0 : Int) < 2 by decide)
      rcases (show c45 % 2 = 0 ∨ c45 % 2 = 1 by omega) with ck | ck
      · rw [ck]
        exact ⟨one, rfl, q12 _ _ hx10⟩
      · rw [ck]
        exact ⟨t3, rfl, q2 _ _ ht3⟩
    walk_at "go"
    refine ⟨dz, ox, rz, lz, ring, len, home, start, _, pz, zs, os, (), (), (), rfl, dayz.ex g12, SqL.of hox, by omega, gz, kk0, by omega, fun found K13 qf af => ?_⟩
    have ad13 := (ad10.ex q12).ex qf
    walk_at "go"
    refine AnsR.same ?_ af ad13
    have g13 := g12.trans qf
    walk_at "go"
    refine ⟨a, ns, 44, rfl, Evl.ex_l g13 hSG, hn, fun c44 _ => ?_⟩
    have hh12 := q12 _ _ hh10
    have hx12 := q12 _ _ hx10
    have hr12 := hr10.ex q12
    have hh13 := qf _ _ hh12
    have hx13 := qf _ _ hx12
    have hr13 := hr12.ex qf
    walk_at "go"
    refine iteB (fun c => ?_) (fun c => ?_)
    · walk_at "go"
      refine ⟨Or.inl ⟨rfl, _, SqL.of hh13⟩, ?_⟩
      walk_at "go"
      intro tp ftp
      have q5 := Evl.Ex.new (o := .tup [found, due]) ftp
      have htp : (upd K13 tp (.tup [found, due])) tp = some (.tup [found, due]) := upd_same
      generalize upd K13 tp (.tup [found, due]) = K14 at q5 htp
      have af14 : AnsR P w (fun p => p ≠ hd ∧ p ≠ one) K14 found (ansOf ring len home start zs os (cell / 2 % 7)) := AnsR.imp (F := fun p => K12 p = none) (G := fun p => p ≠ hd ∧ p ≠ one) (fun p (hp : K12 p = none) => ⟨fun z => (by rw [z, hh12] at hp; cases hp), fun z => (by rw [z, hx12] at hp; cases hp)⟩) (af.ex q5)
      have hh14 := q5 _ _ hh13
      have hx14 := q5 _ _ hx13
      refine ⟨hd, _, _, rfl, rfl, hh14, Evl.sz_lt (by rw [List.length_map]; omega), ?_⟩
      refine ⟨_, _, _, _, _, _, _, _, _, tps ++ [tp], _, rfl, Evl.Ex.mut (g13.trans q5) fhd, (by rw [upd_same, List.map_append]; rfl), (by rw [upd_ne (Ne.symm nho)]; exact hx14), ((hr13.ex q5).snoc htp af14 (ad13.ex q5)).put hh14 (fun _ z => z.1), (by rw [List.length_append]; show tps.length + 1 ≤ i + 1; omega)⟩
    · walk_at "go"
      refine ⟨found, K12, (), (), rfl, af.chg (tour_small gz.2.2.2.2.2), qf, fun K14 q14 => ?_⟩
      exact ⟨_, _, _, _, _, _, _, _, _, tps, _, rfl, g12.trans q14, q14 _ _ hh12, q14 _ _ hx12, hr12.ex q14, by omega⟩
  rintro σ K1 ⟨x6, x11, x12, x13, x14, x15, x16, x17, x18, tps, xs, rfl, g1, hh1, ho1, hr1, lt1⟩
  walk_at "go"
  refine ⟨⟨_, SqL.of hh1⟩, for_list (K := K) (a := hd) (xs := tps.map V.ref) (fun i σ H' => ∃ (x6 x11 x12 x13 x14 x15 x16 x17 x18 : Option V), σ = [some (.ref a), some (.ref r), some (.int home), some (.int start), some (.ref sl), some (.ref ol), x6, some (.ref ud), some (.ref dl), some (.ref hd), some (.ref one), x11, x12, x13, x14, x15, x16, x17, x18] ∧ H' = K1) ⟨_, _, _, _, _, _, _, _, _, rfl, rfl⟩ (fun i σ H' _ p => ?_) ?_ ?_⟩
  · obtain ⟨x6, x11, x12, x13, x14, x15, x16, x17, x18, rfl, rfl⟩ := p
    exact SqL.of hh1
  · rintro i yv σ H' hi ⟨x6, x11, x12, x13, x14, x15, x16, x17, x18, rfl, rfl⟩
    obtain ⟨q', hq', rfl⟩ := map_ref_get hi
    obtain ⟨v, u, an, t1, t2, t3⟩ := hr1 q' (List.mem_of_getElem? hq')
    have hT : SqT K H' q' [v, u] := SqT.of t1
    walk_at "go"
    refine AnsR.same ?_ t2 t3
    walk_at "go"
    exact iteFb rfl ⟨_, _, _, _, _, _, _, _, _, rfl, rfl⟩
  · rintro σ H' ⟨x6, x11, x12, x13, x14, x15, x16, x17, x18, rfl, rfl⟩
    have hdls : SqL K H' dl [.ref d0, .ref d1] := SqL.of (g1 _ _ hdlG)
    have hRz := Evl.ex_t g1 hRG
    walk_at "go"
    intro p0 hp0
    have f1 := g1.trans (Evl.Ex.new (o := .tup [.ref d0, .ref sl]) hp0)
    have ht0 : (upd H' p0 (.tup [.ref d0, .ref sl])) p0 = some (.tup [.ref d0, .ref sl]) := upd_same
    have hdls1 : SqL K (upd H' p0 (.tup [.ref d0, .ref sl])) dl [.ref d0, .ref d1] := SqL.of (f1 _ _ hdlG)
    generalize upd H' p0 (.tup [.ref d0, .ref sl]) = K2 at f1 ht0 hdls1
    walk_at "go"
    intro p1 hp1
    have f12 := Evl.Ex.new (o := .tup [.ref d1, .ref ol]) hp1
    have ht1 : (upd K2 p1 (.tup [.ref d1, .ref ol])) p1 = some (.tup [.ref d1, .ref ol]) := upd_same
    generalize upd K2 p1 (.tup [.ref d1, .ref ol]) = K3 at f12 ht1
    walk_at "go"
    intro pl hpl
    have f23 := Evl.Ex.new (o := .lst [.ref p0, .ref p1]) hpl
    have htl : (upd K3 pl (.lst [.ref p0, .ref p1])) pl = some (.lst [.ref p0, .ref p1]) := upd_same
    generalize upd K3 pl (.lst [.ref p0, .ref p1]) = K4 at f23 htl
    have f4 := f1.trans (f12.trans f23)
    have hP4' := hPG.ex f4
    walk_at "go"
    refine ⟨r, pl, p0, p1, d0, d1, sl, ol, ring, len, home, start, r0, l0, r1, l1', ps0, ps1, ps, ps.reverse, sts, sts.reverse, (), (), rfl, Evl.ex_t f4 hRG, SqL.of htl, SqT.of ((f12.trans f23) _ _ ht0), SqT.of (f23 _ _ ht1), dayAG.ex f4, SqL.of (f4 _ _ hslG), hP4', gday, dayBG.ex f4, SqL.of (f4 _ _ holG), hP4'.rev, gday.rev, fun K5 f45 => ?_⟩
    have f5 := f4.trans f45
    have hdls5 : SqL K K5 dl [.ref d0, .ref d1] := SqL.of (f5 _ _ hdlG)
    obtain ⟨⟨dx0, k1⟩, k2, k3, k4⟩ := id (dayAG.ex f5)
    obtain ⟨⟨dx1, j1⟩, j2, j3, j4⟩ := id (dayBG.ex f5)
    have hP5 := hPG.ex f5
    have hSl5 : SqL K K5 sl (ps.map V.ref) := SqL.of (f5 _ _ hslG)
    have hOl5' : SqL K K5 ol (ps.reverse.map V.ref) := SqL.of (f5 _ _ holG)
    walk_at "go"
    refine ⟨d0, _, dx0, _, _, rfl, k1, T.cl_Day, T.na_Day_stops, rfl, ?_⟩
    walk_at "go"
    refine ⟨stopsD sts, stopsD sts, stops_dp (SqL.of k3) k4, stops_dp hSl5 hP5, shaped_stops _, shaped_stops _, ?_⟩
    rw [eqv_self (shaped_stops _)]
    walk_at "go"
    refine ⟨d1, _, dx1, _, _, rfl, j1, T.cl_Day, T.na_Day_stops, rfl, ?_⟩
    walk_at "go"
    refine ⟨stopsD sts.reverse, stopsD sts.reverse, stops_dp (SqL.of j3) j4, stops_dp hOl5' hP5.rev, shaped_stops _, shaped_stops _, ?_⟩
    rw [eqv_self (shaped_stops _)]
    exact q _
end

/-! ### the head -/
def d_is_road : He.DefD := ⟨("is_road", none), "is_road", "is_road", defArgs s_is_road, defBody s_is_road, defScope s_is_road, [], []⟩
def d_has_place : He.DefD := ⟨("has_place", none), "has_place", "has_place", defArgs s_has_place, defBody s_has_place, defScope s_has_place, [], []⟩
def d_apart : He.DefD := ⟨("apart", none), "apart", "apart", defArgs s_apart, defBody s_apart, defScope s_apart, [], []⟩
def d_way : He.DefD := ⟨("way", none), "way", "way", defArgs s_way, defBody s_way, defScope s_way, [], []⟩
def d_is_time : He.DefD := ⟨("is_time", none), "is_time", "is_time", defArgs s_is_time, defBody s_is_time, defScope s_is_time, [], []⟩
def d_check_stop : He.DefD := ⟨("check_stop", none), "check_stop", "check_stop", defArgs s_check_stop, defBody s_check_stop, defScope s_check_stop, [], []⟩
def d_check_day : He.DefD := ⟨("check_day", none), "check_day", "check_day", defArgs s_check_day, defBody s_check_day, defScope s_check_day, [], []⟩
def d_Day___init : He.DefD := ⟨("Day", some "__init__"), "__init__", "Day.__init__", defArgs s_Day___init, defBody s_Day___init, defScope s_Day___init, [], []⟩
def d_check_order : He.DefD := ⟨("check_order", none), "check_order", "check_order", defArgs s_check_order, defBody s_check_order, defScope s_check_order, [], []⟩
def d_visit : He.DefD := ⟨("visit", none), "visit", "visit", defArgs s_visit, defBody s_visit, defScope s_visit, [], []⟩
def d_timetable : He.DefD := ⟨("timetable", none), "timetable", "timetable", defArgs s_timetable, defBody s_timetable, defScope s_timetable, [], []⟩
def d_ends : He.DefD := ⟨("ends", none), "ends", "ends", defArgs s_ends, defBody s_ends, defScope s_ends, [], []⟩
def d_not_begun : He.DefD := ⟨("not_begun", none), "not_begun", "not_begun", defArgs s_not_begun, defBody s_not_begun, defScope s_not_begun, [], []⟩
def d_begun_way : He.DefD := ⟨("begun_way", none), "begun_way", "begun_way", defArgs s_begun_way, defBody s_begun_way, defScope s_begun_way, [], []⟩
def d_ways_on : He.DefD := ⟨("ways_on", none), "ways_on", "ways_on", defArgs s_ways_on, defBody s_ways_on, defScope s_ways_on, [], []⟩
def d_earliest : He.DefD := ⟨("earliest", none), "earliest", "earliest", defArgs s_earliest, defBody s_earliest, defScope s_earliest, [], []⟩
def d_table : He.DefD := ⟨("table", none), "table", "table", defArgs s_table, defBody s_table, defScope s_table, [], []⟩
def d_tour_end : He.DefD := ⟨("tour_end", none), "tour_end", "tour_end", defArgs s_tour_end, defBody s_tour_end, defScope s_tour_end, [], []⟩
def d_least : He.DefD := ⟨("least", none), "least", "least", defArgs s_least, defBody s_least, defScope s_least, [], []⟩
def d_written : He.DefD := ⟨("written", none), "written", "written", defArgs s_written, defBody s_written, defScope s_written, [], []⟩
def d_number_of : He.DefD := ⟨("number_of", none), "number_of", "number_of", defArgs s_number_of, defBody s_number_of, defScope s_number_of, [], []⟩
def d_numbers_of : He.DefD := ⟨("numbers_of", none), "numbers_of", "numbers_of", defArgs s_numbers_of, defBody s_numbers_of, defScope s_numbers_of, [], []⟩
def d_road_of : He.DefD := ⟨("road_of", none), "road_of", "road_of", defArgs s_road_of, defBody s_road_of, defScope s_road_of, [], []⟩
def d_read : He.DefD := ⟨("read", none), "read", "read", defArgs s_read, defBody s_read, defScope s_read, [], []⟩
def d_best : He.DefD := ⟨("best", none), "best", "best", defArgs s_best, defBody s_best, defScope s_best, [], []⟩
def d_next_number : He.DefD := ⟨("next_number", none), "next_number", "next_number", defArgs s_next_number, defBody s_next_number, defScope s_next_number, [], []⟩
def d_has_tour : He.DefD := ⟨("has_tour", none), "has_tour", "has_tour", defArgs s_has_tour, defBody s_has_tour, defScope s_has_tour, [], []⟩
def d_clash : He.DefD := ⟨("clash", none), "clash", "clash", defArgs s_clash, defBody s_clash, defScope s_clash, [], []⟩
def d_told : He.DefD := ⟨("told", none), "told", "told", defArgs s_told, defBody s_told, defScope s_told, [], []⟩
def d_law_cell_at : He.DefD := ⟨("_law_cell_at", none), "_law_cell_at", "_law_cell_at", defArgs s_law_cell_at, defBody s_law_cell_at, defScope s_law_cell_at, [], []⟩
def d_law_wide : He.DefD := ⟨("_law_wide", none), "_law_wide", "_law_wide", defArgs s_law_wide, defBody s_law_wide, defScope s_law_wide, [], []⟩
def d_law_road_by : He.DefD := ⟨("_law_road_by", none), "_law_road_by", "_law_road_by", defArgs s_law_road_by, defBody s_law_road_by, defScope s_law_road_by, [], []⟩
def d_law_places : He.DefD := ⟨("_law_places", none), "_law_places", "_law_places", defArgs s_law_places, defBody s_law_places, defScope s_law_places, [], []⟩
def d_law_place_by : He.DefD := ⟨("_law_place_by", none), "_law_place_by", "_law_place_by", defArgs s_law_place_by, defBody s_law_place_by, defScope s_law_place_by, [], []⟩
def d_law_start_by : He.DefD := ⟨("_law_start_by", none), "_law_start_by", "_law_start_by", defArgs s_law_start_by, defBody s_law_start_by, defScope s_law_start_by, [], []⟩
def d_law_stop_by : He.DefD := ⟨("_law_stop_by", none), "_law_stop_by", "_law_stop_by", defArgs s_law_stop_by, defBody s_law_stop_by, defScope s_law_stop_by, [], []⟩
def d_law_stops_by : He.DefD := ⟨("_law_stops_by", none), "_law_stops_by", "_law_stops_by", defArgs s_law_stops_by, defBody s_law_stops_by, defScope s_law_stops_by, [], []⟩
def d_law_many : He.DefD := ⟨("_law_many", none), "_law_many", "_law_many", defArgs s_law_many, defBody s_law_many, defScope s_law_many, [], []⟩
def d_law_order : He.DefD := ⟨("_law_order", none), "_law_order", "_law_order", defArgs s_law_order, defBody s_law_order, defScope s_law_order, [], []⟩
def d_law_driven : He.DefD := ⟨("_law_driven", none), "_law_driven", "_law_driven", defArgs s_law_driven, defBody s_law_driven, defScope s_law_driven, [], []⟩
def d_law_answer : He.DefD := ⟨("_law_answer", none), "_law_answer", "_law_answer", defArgs s_law_answer, defBody s_law_answer, defScope s_law_answer, [], []⟩
def d_law_changed : He.DefD := ⟨("_law_changed", none), "_law_changed", "_law_changed", defArgs s_law_changed, defBody s_law_changed, defScope s_law_changed, [], []⟩
def d_law_far : He.DefD := ⟨("_law_far", none), "_law_far", "_law_far", defArgs s_law_far, defBody s_law_far, defScope s_law_far, [], []⟩
def d_law_due_times : He.DefD := ⟨("_law_due_times", none), "_law_due_times", "_law_due_times", defArgs s_law_due_times, defBody s_law_due_times, defScope s_law_due_times, [], []⟩
def d_law_times_right : He.DefD := ⟨("_law_times_right", none), "_law_times_right", "_law_times_right", defArgs s_law_times_right, defBody s_law_times_right, defScope s_law_times_right, [], []⟩
def d_law : He.DefD := ⟨("law", none), "law", "law", defArgs s_law, defBody s_law, defScope s_law, [], []⟩
def fn : List He.DefD := [d_is_road, d_has_place, d_apart, d_way, d_is_time, d_check_stop, d_check_day, d_Day___init, d_check_order, d_visit, d_timetable, d_ends, d_not_begun, d_begun_way, d_ways_on, d_earliest, d_table, d_tour_end, d_least, d_written, d_number_of, d_numbers_of, d_road_of, d_read, d_best, d_next_number, d_has_tour, d_clash, d_told, d_law_cell_at, d_law_wide, d_law_road_by, d_law_places, d_law_place_by, d_law_start_by, d_law_stop_by, d_law_stops_by, d_law_many, d_law_order, d_law_driven, d_law_answer, d_law_changed, d_law_far, d_law_due_times, d_law_times_right, d_law]
abbrev fa : List He.Fa := [.glo "is_road", .glo "has_place", .glo "apart", .glo "way", .glo "is_time", .glo "check_stop", .glo "check_day", .glo "check_order", .glo "visit", .glo "timetable", .glo "ends", .glo "not_begun", .glo "begun_way", .glo "ways_on", .glo "earliest", .glo "table", .glo "tour_end", .glo "least", .glo "written", .glo "number_of", .glo "numbers_of", .glo "road_of", .glo "read", .glo "best", .glo "next_number", .glo "has_tour", .glo "clash", .glo "told", .glo "_law_cell_at", .glo "_law_wide", .glo "_law_road_by", .glo "_law_places", .glo "_law_place_by", .glo "_law_start_by", .glo "_law_stop_by", .glo "_law_stops_by", .glo "_law_many", .glo "_law_order", .glo "_law_driven", .glo "_law_answer", .glo "_law_changed", .glo "_law_far", .glo "_law_due_times", .glo "_law_times_right", .glo "law", .glo "RouteError", .exc "RouteError", .glo "BadRoad", .exc "BadRoad", .glo "OffRoad", .exc "OffRoad", .glo "BadTime", .exc "BadTime", .glo "TooMany", .exc "TooMany", .glo "BadOrder", .exc "BadOrder", .glo "Missed", .exc "Missed", .glo "NoDay", .exc "NoDay", .glo "Day", .cls "Day", .mkr "Day", .noat "Day" "home", .noat "Day" "road", .noat "Day" "start", .noat "Day" "stops", .exm "OffRoad" "Missed" false, .exm "OffRoad" "BadOrder" false, .exm "BadTime" "Missed" false, .exm "BadTime" "BadOrder" false, .exm "BadRoad" "Missed" false, .exm "BadRoad" "BadOrder" false, .exm "TooMany" "Missed" false, .exm "TooMany" "BadOrder" false, .exm "BadOrder" "Missed" false, .exm "BadOrder" "BadOrder" true, .exm "NoDay" "Missed" false, .exm "NoDay" "BadOrder" false, .exm "Missed" "Missed" true, .exm "Missed" "BadOrder" false, .str "LINE" "line", .str "RING" "ring", .int "LONGEST" 1000000000, .int "LATEST" 1000000000000, .int "MOST_STOPS" 7, .str "FIGURES" "0123456789", .int "MOST_FIGURES" 15, .glo "HOME_WORDS", .glo "STOP_WORDS", .free "abs", .free "max", .free "tuple", .free "range", .free "min", .free "int", .free "list", .free "reversed", .free "len", .free "isinstance", .free "dict", .free "set"]
def exl (K : PySem.W.Frag) : List Bool := [excCB K (He.ga K "OffRoad"), excCB K (He.ga K "BadTime"), excCB K (He.ga K "BadRoad"), excCB K (He.ga K "TooMany"), excCB K (He.ga K "BadOrder"), excCB K (He.ga K "NoDay"), excCB K (He.ga K "Missed"), He.eqO (PySem.W.nsIn K mainGlobals "combinations") (some (some (.type "itertools.combinations"))), tupCB K (He.ga K "HOME_WORDS") [("home" : Str), ("at" : Str)], tupCB K (He.ga K "STOP_WORDS") [("stop" : Str), ("from" : Str), ("to" : Str), ("for" : Str)]]
def ex (K : PySem.W.Frag) : Bool := (exl K).all id
theorem exAt {K : PySem.W.Frag} (h : ex K = true) (i : Nat) {b : Bool} (e : (exl K)[i]? = some b) : b = true := List.all_eq_true.mp h b (List.mem_of_getElem? e)
abbrev R : PySem.W.OpenRow := PySem.W.OpenLaw.row PySem.Challenge.rw_routevan_k14_asked_in_turn
abbrev hk : PySem.W.Hook := He.hookX 6 fa fn [] [] ex
def ob (s : PySem.W.SharedT) : He.AlX := He.obsX 6 fa fn [] [] ex (HandSHeadRun.getT s)
theorem ob_eq (s : PySem.W.SharedT) : ob s = hk.obs s.abs := He.obsX_eq (HandSHeadRun.getT_eq s)
def names : List Str := [("combinations" : Str), ("RouteError" : Str), ("BadRoad" : Str), ("OffRoad" : Str), ("BadTime" : Str), ("TooMany" : Str), ("BadOrder" : Str), ("Missed" : Str), ("NoDay" : Str), ("LINE" : Str), ("RING" : Str), ("LONGEST" : Str), ("is_road" : Str), ("has_place" : Str), ("apart" : Str), ("way" : Str), ("LATEST" : Str), ("MOST_STOPS" : Str), ("is_time" : Str), ("check_stop" : Str), ("check_day" : Str), ("Day" : Str), ("check_order" : Str), ("visit" : Str), ("timetable" : Str), ("ends" : Str), ("not_begun" : Str), ("begun_way" : Str), ("ways_on" : Str), ("earliest" : Str), ("table" : Str), ("tour_end" : Str), ("least" : Str), ("FIGURES" : Str), ("MOST_FIGURES" : Str), ("HOME_WORDS" : Str), ("STOP_WORDS" : Str), ("written" : Str), ("number_of" : Str), ("numbers_of" : Str), ("road_of" : Str), ("read" : Str), ("best" : Str), ("next_number" : Str), ("has_tour" : Str), ("clash" : Str), ("told" : Str), ("_law_cell_at" : Str), ("_law_wide" : Str), ("_law_road_by" : Str), ("_law_places" : Str), ("_law_place_by" : Str), ("_law_start_by" : Str), ("_law_stop_by" : Str), ("_law_stops_by" : Str), ("_law_many" : Str), ("_law_order" : Str), ("_law_driven" : Str), ("_law_answer" : Str), ("_law_changed" : Str), ("_law_far" : Str), ("_law_due_times" : Str), ("_law_times_right" : Str)]
theorem run (w : World) : RunEqI R (PySem.W.view R.prog [70]) hk ob 6500 names "itertools" w := by
  unfold RunEqI
  kernel_rfl
theorem facts {P : Program} {w : World} {K : PySem.W.Frag} {h : Heap} {mg : Str → Option Value} {f : Addr} (KX : K.In h) (G : h.Ns mainGlobals mg) (hfa : mg ("law" : Str) = some (.ref f)) (c : He.SaysD fa fn K) (hx : ex K = true) :
    ∃ fd : FuncData, (∀ (s : Shared) (v : Value), BindsTo s fd ⟨[v], []⟩ [("_law_script", v)]) ∧ ∀ base : Heap, K.In base → base.Ns mainGlobals mg → FnOk P w K mg base CX0 12 f fd ["_law_script"] (sp_law K) := by
  obtain ⟨fd0, F0⟩ := c.def_ 0 (d := d_is_road) rfl
  obtain ⟨fd1, F1⟩ := c.def_ 1 (d := d_has_place) rfl
  obtain ⟨fd2, F2⟩ := c.def_ 2 (d := d_apart) rfl
  obtain ⟨fd3, F3⟩ := c.def_ 3 (d := d_way) rfl
  obtain ⟨fd4, F4⟩ := c.def_ 4 (d := d_is_time) rfl
  obtain ⟨fd5, F5⟩ := c.def_ 5 (d := d_check_stop) rfl
  obtain ⟨fd6, F6⟩ := c.def_ 6 (d := d_check_day) rfl
  obtain ⟨fd7, F7⟩ := c.def_ 7 (d := d_Day___init) rfl
  obtain ⟨fd8, F8⟩ := c.def_ 8 (d := d_check_order) rfl
  obtain ⟨fd9, F9⟩ := c.def_ 9 (d := d_visit) rfl
  obtain ⟨fd10, F10⟩ := c.def_ 10 (d := d_timetable) rfl
  obtain ⟨fd11, F11⟩ := c.def_ 11 (d := d_ends) rfl
  obtain ⟨fd12, F12⟩ := c.def_ 12 (d := d_not_begun) rfl
  obtain ⟨fd13, F13⟩ := c.def_ 13 (d := d_begun_way) rfl
  obtain ⟨fd14, F14⟩ := c.def_ 14 (d := d_ways_on) rfl
  obtain ⟨fd15, F15⟩ := c.def_ 15 (d := d_earliest) rfl
  obtain ⟨fd16, F16⟩ := c.def_ 16 (d := d_table) rfl
  obtain ⟨fd17, F17⟩ := c.def_ 17 (d := d_tour_end) rfl
  obtain ⟨fd18, F18⟩ := c.def_ 18 (d := d_least) rfl
  obtain ⟨fd19, F19⟩ := c.def_ 19 (d := d_written) rfl
  obtain ⟨fd20, F20⟩ := c.def_ 20 (d := d_number_of) rfl
  obtain ⟨fd21, F21⟩ := c.def_ 21 (d := d_numbers_of) rfl
  obtain ⟨fd22, F22⟩ := c.def_ 22 (d := d_road_of) rfl
  obtain ⟨fd23, F23⟩ := c.def_ 23 (d := d_read) rfl
  obtain ⟨fd24, F24⟩ := c.def_ 24 (d := d_best) rfl
  obtain ⟨fd25, F25⟩ := c.def_ 25 (d := d_next_number) rfl
  obtain ⟨fd26, F26⟩ := c.def_ 26 (d := d_has_tour) rfl
  obtain ⟨fd27, F27⟩ := c.def_ 27 (d := d_clash) rfl
  obtain ⟨fd28, F28⟩ := c.def_ 28 (d := d_told) rfl
  obtain ⟨fd29, F29⟩ := c.def_ 29 (d := d_law_cell_at) rfl
  obtain ⟨fd30, F30⟩ := c.def_ 30 (d := d_law_wide) rfl
  obtain ⟨fd31, F31⟩ := c.def_ 31 (d := d_law_road_by) rfl
  obtain ⟨fd32, F32⟩ := c.def_ 32 (d := d_law_places) rfl
  obtain ⟨fd33, F33⟩ := c.def_ 33 (d := d_law_place_by) rfl
  obtain ⟨fd34, F34⟩ := c.def_ 34 (d := d_law_start_by) rfl
  obtain ⟨fd35, F35⟩ := c.def_ 35 (d := d_law_stop_by) rfl
  obtain ⟨fd36, F36⟩ := c.def_ 36 (d := d_law_stops_by) rfl
  obtain ⟨fd37, F37⟩ := c.def_ 37 (d := d_law_many) rfl
  obtain ⟨fd38, F38⟩ := c.def_ 38 (d := d_law_order) rfl
  obtain ⟨fd39, F39⟩ := c.def_ 39 (d := d_law_driven) rfl
  obtain ⟨fd40, F40⟩ := c.def_ 40 (d := d_law_answer) rfl
  obtain ⟨fd41, F41⟩ := c.def_ 41 (d := d_law_changed) rfl
  obtain ⟨fd42, F42⟩ := c.def_ 42 (d := d_law_far) rfl
  obtain ⟨fd43, F43⟩ := c.def_ 43 (d := d_law_due_times) rfl
  obtain ⟨fd44, F44⟩ := c.def_ 44 (d := d_law_times_right) rfl
  obtain ⟨fd45, F45⟩ := c.def_ 45 (d := d_law) rfl
  let D : Str → FuncData := fun x => ([(("is_road" : Str), fd0), (("has_place" : Str), fd1), (("apart" : Str), fd2), (("way" : Str), fd3), (("is_time" : Str), fd4), (("check_stop" : Str), fd5), (("check_day" : Str), fd6), (("Day.__init__" : Str), fd7), (("check_order" : Str), fd8), (("visit" : Str), fd9), (("timetable" : Str), fd10), (("ends" : Str), fd11), (("not_begun" : Str), fd12), (("begun_way" : Str), fd13), (("ways_on" : Str), fd14), (("earliest" : Str), fd15), (("table" : Str), fd16), (("tour_end" : Str), fd17), (("least" : Str), fd18), (("written" : Str), fd19), (("number_of" : Str), fd20), (("numbers_of" : Str), fd21), (("road_of" : Str), fd22), (("read" : Str), fd23), (("best" : Str), fd24), (("next_number" : Str), fd25), (("has_tour" : Str), fd26), (("clash" : Str), fd27), (("told" : Str), fd28), (("_law_cell_at" : Str), fd29), (("_law_wide" : Str), fd30), (("_law_road_by" : Str), fd31), (("_law_places" : Str), fd32), (("_law_place_by" : Str), fd33), (("_law_start_by" : Str), fd34), (("_law_stop_by" : Str), fd35), (("_law_stops_by" : Str), fd36), (("_law_many" : Str), fd37), (("_law_order" : Str), fd38), (("_law_driven" : Str), fd39), (("_law_answer" : Str), fd40), (("_law_changed" : Str), fd41), (("_law_far" : Str), fd42), (("_law_due_times" : Str), fd43), (("_law_times_right" : Str), fd44), (("law" : Str), fd45)].lookup x).getD fd45
  have T : Txt K mg D := {
    F_is_road := F0,
    m_is_road := He.glo_ok KX G (c.fact 0 (f := (.glo "is_road")) rfl),
    b_is_road := F0.bindsN fun _ _ _ _ _ _ us hl => match us, hl with | [_], _ => rfl,
    F_has_place := F1,
    m_has_place := He.glo_ok KX G (c.fact 1 (f := (.glo "has_place")) rfl),
    b_has_place := F1.bindsN fun _ _ _ _ _ _ us hl => match us, hl with | [_, _], _ => rfl,
    F_apart := F2,
    m_apart := He.glo_ok KX G (c.fact 2 (f := (.glo "apart")) rfl),
    b_apart := F2.bindsN fun _ _ _ _ _ _ us hl => match us, hl with | [_, _, _], _ => rfl,
    F_way := F3,
    m_way := He.glo_ok KX G (c.fact 3 (f := (.glo "way")) rfl),
    b_way := F3.bindsN fun _ _ _ _ _ _ us hl => match us, hl with | [_, _, _], _ => rfl,
    F_is_time := F4,
    m_is_time := He.glo_ok KX G (c.fact 4 (f := (.glo "is_time")) rfl),
    b_is_time := F4.bindsN fun _ _ _ _ _ _ us hl => match us, hl with | [_], _ => rfl,
    F_check_stop := F5,
    m_check_stop := He.glo_ok KX G (c.fact 5 (f := (.glo "check_stop")) rfl),
    b_check_stop := F5.bindsN fun _ _ _ _ _ _ us hl => match us, hl with | [_, _], _ => rfl,
    F_check_day := F6,
    m_check_day := He.glo_ok KX G (c.fact 6 (f := (.glo "check_day")) rfl),
    b_check_day := F6.bindsN fun _ _ _ _ _ _ us hl => match us, hl with | [_, _, _, _], _ => rfl,
    F_Day___init := F7,
    b_Day___init := F7.bindsN fun _ _ _ _ _ _ us hl => match us, hl with | [_, _, _, _, _], _ => rfl,
    F_check_order := F8,
    m_check_order := He.glo_ok KX G (c.fact 7 (f := (.glo "check_order")) rfl),
    b_check_order := F8.bindsN fun _ _ _ _ _ _ us hl => match us, hl with | [_, _], _ => rfl,
    F_visit := F9,
    m_visit := He.glo_ok KX G (c.fact 8 (f := (.glo "visit")) rfl),
    b_visit := F9.bindsN fun _ _ _ _ _ _ us hl => match us, hl with | [_, _, _, _], _ => rfl,
    F_timetable := F10,
    m_timetable := He.glo_ok KX G (c.fact 9 (f := (.glo "timetable")) rfl),
    b_timetable := F10.bindsN fun _ _ _ _ _ _ us hl => match us, hl with | [_, _], _ => rfl,
    F_ends := F11,
    m_ends := He.glo_ok KX G (c.fact 10 (f := (.glo "ends")) rfl),
    b_ends := F11.bindsN fun _ _ _ _ _ _ us hl => match us, hl with | [_, _], _ => rfl,
    F_not_begun := F12,
    m_not_begun := He.glo_ok KX G (c.fact 11 (f := (.glo "not_begun")) rfl),
    b_not_begun := F12.bindsN fun _ _ _ _ _ _ us hl => match us, hl with | [_, _], _ => rfl,
    F_begun_way := F13,
    m_begun_way := He.glo_ok KX G (c.fact 12 (f := (.glo "begun_way")) rfl),
    b_begun_way := F13.bindsN fun _ _ _ _ _ _ us hl => match us, hl with | [_, _], _ => rfl,
    F_ways_on := F14,
    m_ways_on := He.glo_ok KX G (c.fact 13 (f := (.glo "ways_on")) rfl),
    b_ways_on := F14.bindsN fun _ _ _ _ _ _ us hl => match us, hl with | [_, _, _], _ => rfl,
    F_earliest := F15,
    m_earliest := He.glo_ok KX G (c.fact 14 (f := (.glo "earliest")) rfl),
    b_earliest := F15.bindsN fun _ _ _ _ _ _ us hl => match us, hl with | [_, _, _], _ => rfl,
    F_table := F16,
    m_table := He.glo_ok KX G (c.fact 15 (f := (.glo "table")) rfl),
    b_table := F16.bindsN fun _ _ _ _ _ _ us hl => match us, hl with | [_, _], _ => rfl,
    F_tour_end := F17,
    m_tour_end := He.glo_ok KX G (c.fact 16 (f := (.glo "tour_end")) rfl),
    b_tour_end := F17.bindsN fun _ _ _ _ _ _ us hl => match us, hl with | [_, _], _ => rfl,
    F_least := F18,
    m_least := He.glo_ok KX G (c.fact 17 (f := (.glo "least")) rfl),
    b_least := F18.bindsN fun _ _ _ _ _ _ us hl => match us, hl with | [_, _], _ => rfl,
    F_written := F19,
    m_written := He.glo_ok KX G (c.fact 18 (f := (.glo "written")) rfl),
    b_written := F19.bindsN fun _ _ _ _ _ _ us hl => match us, hl with | [_], _ => rfl,
    F_number_of := F20,
    m_number_of := He.glo_ok KX G (c.fact 19 (f := (.glo "number_of")) rfl),
    b_number_of := F20.bindsN fun _ _ _ _ _ _ us hl => match us, hl with | [_], _ => rfl,
    F_numbers_of := F21,
    m_numbers_of := He.glo_ok KX G (c.fact 20 (f := (.glo "numbers_of")) rfl),
    b_numbers_of := F21.bindsN fun _ _ _ _ _ _ us hl => match us, hl with | [_, _], _ => rfl,
    F_road_of := F22,
    m_road_of := He.glo_ok KX G (c.fact 21 (f := (.glo "road_of")) rfl),
    b_road_of := F22.bindsN fun _ _ _ _ _ _ us hl => match us, hl with | [_], _ => rfl,
    F_read := F23,
    m_read := He.glo_ok KX G (c.fact 22 (f := (.glo "read")) rfl),
    b_read := F23.bindsN fun _ _ _ _ _ _ us hl => match us, hl with | [_], _ => rfl,
    F_best := F24,
    m_best := He.glo_ok KX G (c.fact 23 (f := (.glo "best")) rfl),
    b_best := F24.bindsN fun _ _ _ _ _ _ us hl => match us, hl with | [_], _ => rfl,
    F_next_number := F25,
    m_next_number := He.glo_ok KX G (c.fact 24 (f := (.glo "next_number")) rfl),
    b_next_number := F25.bindsN fun _ _ _ _ _ _ us hl => match us, hl with | [_, _, _], _ => rfl,
    F_has_tour := F26,
    m_has_tour := He.glo_ok KX G (c.fact 25 (f := (.glo "has_tour")) rfl),
    b_has_tour := F26.bindsN fun _ _ _ _ _ _ us hl => match us, hl with | [_, _], _ => rfl,
    F_clash := F27,
    m_clash := He.glo_ok KX G (c.fact 26 (f := (.glo "clash")) rfl),
    b_clash := F27.bindsN fun _ _ _ _ _ _ us hl => match us, hl with | [_], _ => rfl,
    F_told := F28,
    m_told := He.glo_ok KX G (c.fact 27 (f := (.glo "told")) rfl),
    b_told := F28.bindsN fun _ _ _ _ _ _ us hl => match us, hl with | [_], _ => rfl,
    F_law_cell_at := F29,
    m_law_cell_at := He.glo_ok KX G (c.fact 28 (f := (.glo "_law_cell_at")) rfl),
    b_law_cell_at := F29.bindsN fun _ _ _ _ _ _ us hl => match us, hl with | [_, _], _ => rfl,
    F_law_wide := F30,
    m_law_wide := He.glo_ok KX G (c.fact 29 (f := (.glo "_law_wide")) rfl),
    b_law_wide := F30.bindsN fun _ _ _ _ _ _ us hl => match us, hl with | [_, _], _ => rfl,
    F_law_road_by := F31,
    m_law_road_by := He.glo_ok KX G (c.fact 30 (f := (.glo "_law_road_by")) rfl),
    b_law_road_by := F31.bindsN fun _ _ _ _ _ _ us hl => match us, hl with | [_], _ => rfl,
    F_law_places := F32,
    m_law_places := He.glo_ok KX G (c.fact 31 (f := (.glo "_law_places")) rfl),
    b_law_places := F32.bindsN fun _ _ _ _ _ _ us hl => match us, hl with | [_], _ => rfl,
    F_law_place_by := F33,
    m_law_place_by := He.glo_ok KX G (c.fact 32 (f := (.glo "_law_place_by")) rfl),
    b_law_place_by := F33.bindsN fun _ _ _ _ _ _ us hl => match us, hl with | [_, _], _ => rfl,
    F_law_start_by := F34,
    m_law_start_by := He.glo_ok KX G (c.fact 33 (f := (.glo "_law_start_by")) rfl),
    b_law_start_by := F34.bindsN fun _ _ _ _ _ _ us hl => match us, hl with | [_, _], _ => rfl,
    F_law_stop_by := F35,
    m_law_stop_by := He.glo_ok KX G (c.fact 34 (f := (.glo "_law_stop_by")) rfl),
    b_law_stop_by := F35.bindsN fun _ _ _ _ _ _ us hl => match us, hl with | [_, _, _, _], _ => rfl,
    F_law_stops_by := F36,
    m_law_stops_by := He.glo_ok KX G (c.fact 35 (f := (.glo "_law_stops_by")) rfl),
    b_law_stops_by := F36.bindsN fun _ _ _ _ _ _ us hl => match us, hl with | [_, _, _, _], _ => rfl,
    F_law_many := F37,
    m_law_many := He.glo_ok KX G (c.fact 36 (f := (.glo "_law_many")) rfl),
    b_law_many := F37.bindsN fun _ _ _ _ _ _ us hl => match us, hl with | [_], _ => rfl,
    F_law_order := F38,
    m_law_order := He.glo_ok KX G (c.fact 37 (f := (.glo "_law_order")) rfl),
    b_law_order := F38.bindsN fun _ _ _ _ _ _ us hl => match us, hl with | [_, _, _], _ => rfl,
    F_law_driven := F39,
    m_law_driven := He.glo_ok KX G (c.fact 38 (f := (.glo "_law_driven")) rfl),
    b_law_driven := F39.bindsN fun _ _ _ _ _ _ us hl => match us, hl with | [_, _, _], _ => rfl,
    F_law_answer := F40,
    m_law_answer := He.glo_ok KX G (c.fact 39 (f := (.glo "_law_answer")) rfl),
    b_law_answer := F40.bindsN fun _ _ _ _ _ _ us hl => match us, hl with | [_, _, _], _ => rfl,
    F_law_changed := F41,
    m_law_changed := He.glo_ok KX G (c.fact 40 (f := (.glo "_law_changed")) rfl),
    b_law_changed := F41.bindsN fun _ _ _ _ _ _ us hl => match us, hl with | [_], _ => rfl,
    F_law_far := F42,
    m_law_far := He.glo_ok KX G (c.fact 41 (f := (.glo "_law_far")) rfl),
    b_law_far := F42.bindsN fun _ _ _ _ _ _ us hl => match us, hl with | [_, _, _], _ => rfl,
    F_law_due_times := F43,
    m_law_due_times := He.glo_ok KX G (c.fact 42 (f := (.glo "_law_due_times")) rfl),
    b_law_due_times := F43.bindsN fun _ _ _ _ _ _ us hl => match us, hl with | [_, _, _, _, _], _ => rfl,
    F_law_times_right := F44,
    m_law_times_right := He.glo_ok KX G (c.fact 43 (f := (.glo "_law_times_right")) rfl),
    b_law_times_right := F44.bindsN fun _ _ _ _ _ _ us hl => match us, hl with | [_, _, _, _], _ => rfl,
    F_law := F45,
    m_law := He.glo_ok KX G (c.fact 44 (f := (.glo "law")) rfl),
    b_law := F45.bindsN fun _ _ _ _ _ _ us hl => match us, hl with | [_], _ => rfl,
    m_RouteError := He.glo_ok KX G (c.fact 45 (f := (.glo "RouteError")) rfl),
    x_RouteError := (He.exc_ok (c.fact 46 (f := (.exc "RouteError")) rfl)).1,
    kp_RouteError := (He.exc_ok (c.fact 46 (f := (.exc "RouteError")) rfl)).2.1,
    sb_RouteError := (He.exc_ok (c.fact 46 (f := (.exc "RouteError")) rfl)).2.2.1,
    ty_RouteError := (He.exc_ok (c.fact 46 (f := (.exc "RouteError")) rfl)).2.2.2,
    m_BadRoad := He.glo_ok KX G (c.fact 47 (f := (.glo "BadRoad")) rfl),
    x_BadRoad := (He.exc_ok (c.fact 48 (f := (.exc "BadRoad")) rfl)).1,
    kp_BadRoad := (He.exc_ok (c.fact 48 (f := (.exc "BadRoad")) rfl)).2.1,
    sb_BadRoad := (He.exc_ok (c.fact 48 (f := (.exc "BadRoad")) rfl)).2.2.1,
    ty_BadRoad := (He.exc_ok (c.fact 48 (f := (.exc "BadRoad")) rfl)).2.2.2,
    m_OffRoad := He.glo_ok KX G (c.fact 49 (f := (.glo "OffRoad")) rfl),
    x_OffRoad := (He.exc_ok (c.fact 50 (f := (.exc "OffRoad")) rfl)).1,
    kp_OffRoad := (He.exc_ok (c.fact 50 (f := (.exc "OffRoad")) rfl)).2.1,
    sb_OffRoad := (He.exc_ok (c.fact 50 (f := (.exc "OffRoad")) rfl)).2.2.1,
    ty_OffRoad := (He.exc_ok (c.fact 50 (f := (.exc "OffRoad")) rfl)).2.2.2,
    m_BadTime := He.glo_ok KX G (c.fact 51 (f := (.glo "BadTime")) rfl),
    x_BadTime := (He.exc_ok (c.fact 52 (f := (.exc "BadTime")) rfl)).1,
    kp_BadTime := (He.exc_ok (c.fact 52 (f := (.exc "BadTime")) rfl)).2.1,
    sb_BadTime := (He.exc_ok (c.fact 52 (f := (.exc "BadTime")) rfl)).2.2.1,
    ty_BadTime := (He.exc_ok (c.fact 52 (f := (.exc "BadTime")) rfl)).2.2.2,
    m_TooMany := He.glo_ok KX G (c.fact 53 (f := (.glo "TooMany")) rfl),
    x_TooMany := (He.exc_ok (c.fact 54 (f := (.exc "TooMany")) rfl)).1,
    kp_TooMany := (He.exc_ok (c.fact 54 (f := (.exc "TooMany")) rfl)).2.1,
    sb_TooMany := (He.exc_ok (c.fact 54 (f := (.exc "TooMany")) rfl)).2.2.1,
    ty_TooMany := (He.exc_ok (c.fact 54 (f := (.exc "TooMany")) rfl)).2.2.2,
    m_BadOrder := He.glo_ok KX G (c.fact 55 (f := (.glo "BadOrder")) rfl),
    x_BadOrder := (He.exc_ok (c.fact 56 (f := (.exc "BadOrder")) rfl)).1,
    kp_BadOrder := (He.exc_ok (c.fact 56 (f := (.exc "BadOrder")) rfl)).2.1,
    sb_BadOrder := (He.exc_ok (c.fact 56 (f := (.exc "BadOrder")) rfl)).2.2.1,
    ty_BadOrder := (He.exc_ok (c.fact 56 (f := (.exc "BadOrder")) rfl)).2.2.2,
    m_Missed := He.glo_ok KX G (c.fact 57 (f := (.glo "Missed")) rfl),
    x_Missed := (He.exc_ok (c.fact 58 (f := (.exc "Missed")) rfl)).1,
    kp_Missed := (He.exc_ok (c.fact 58 (f := (.exc "Missed")) rfl)).2.1,
    sb_Missed := (He.exc_ok (c.fact 58 (f := (.exc "Missed")) rfl)).2.2.1,
    ty_Missed := (He.exc_ok (c.fact 58 (f := (.exc "Missed")) rfl)).2.2.2,
    m_NoDay := He.glo_ok KX G (c.fact 59 (f := (.glo "NoDay")) rfl),
    x_NoDay := (He.exc_ok (c.fact 60 (f := (.exc "NoDay")) rfl)).1,
    kp_NoDay := (He.exc_ok (c.fact 60 (f := (.exc "NoDay")) rfl)).2.1,
    sb_NoDay := (He.exc_ok (c.fact 60 (f := (.exc "NoDay")) rfl)).2.2.1,
    ty_NoDay := (He.exc_ok (c.fact 60 (f := (.exc "NoDay")) rfl)).2.2.2,
    m_Day := He.glo_ok KX G (c.fact 61 (f := (.glo "Day")) rfl),
    cl_Day := He.cls_ok (c.fact 62 (f := (.cls "Day")) rfl),
    k_Day := He.mkr_ok (c.fact 63 (f := (.mkr "Day")) rfl),
    na_Day_home := He.noat_ok (c.fact 64 (f := (.noat "Day" "home")) rfl),
    na_Day_road := He.noat_ok (c.fact 65 (f := (.noat "Day" "road")) rfl),
    na_Day_start := He.noat_ok (c.fact 66 (f := (.noat "Day" "start")) rfl),
    na_Day_stops := He.noat_ok (c.fact 67 (f := (.noat "Day" "stops")) rfl),
    e_OffRoad_Missed := He.exm_ok (c.fact 68 (f := (.exm "OffRoad" "Missed" false)) rfl),
    e_OffRoad_BadOrder := He.exm_ok (c.fact 69 (f := (.exm "OffRoad" "BadOrder" false)) rfl),
    e_BadTime_Missed := He.exm_ok (c.fact 70 (f := (.exm "BadTime" "Missed" false)) rfl),
    e_BadTime_BadOrder := He.exm_ok (c.fact 71 (f := (.exm "BadTime" "BadOrder" false)) rfl),
    e_BadRoad_Missed := He.exm_ok (c.fact 72 (f := (.exm "BadRoad" "Missed" false)) rfl),
    e_BadRoad_BadOrder := He.exm_ok (c.fact 73 (f := (.exm "BadRoad" "BadOrder" false)) rfl),
    e_TooMany_Missed := He.exm_ok (c.fact 74 (f := (.exm "TooMany" "Missed" false)) rfl),
    e_TooMany_BadOrder := He.exm_ok (c.fact 75 (f := (.exm "TooMany" "BadOrder" false)) rfl),
    e_BadOrder_Missed := He.exm_ok (c.fact 76 (f := (.exm "BadOrder" "Missed" false)) rfl),
    e_BadOrder_BadOrder := He.exm_ok (c.fact 77 (f := (.exm "BadOrder" "BadOrder" true)) rfl),
    e_NoDay_Missed := He.exm_ok (c.fact 78 (f := (.exm "NoDay" "Missed" false)) rfl),
    e_NoDay_BadOrder := He.exm_ok (c.fact 79 (f := (.exm "NoDay" "BadOrder" false)) rfl),
    e_Missed_Missed := He.exm_ok (c.fact 80 (f := (.exm "Missed" "Missed" true)) rfl),
    e_Missed_BadOrder := He.exm_ok (c.fact 81 (f := (.exm "Missed" "BadOrder" false)) rfl),
    c_LINE := (fun ⟨t, e⟩ => ⟨_, e, t, rfl⟩) (He.str_ok KX G (c.fact 82 (f := (.str "LINE" "line")) rfl)),
    c_RING := (fun ⟨t, e⟩ => ⟨_, e, t, rfl⟩) (He.str_ok KX G (c.fact 83 (f := (.str "RING" "ring")) rfl)),
    c_LONGEST := (fun ⟨t, e⟩ => ⟨_, e, t, rfl⟩) (He.int_ok KX G (c.fact 84 (f := (.int "LONGEST" 1000000000)) rfl)),
    c_LATEST := (fun ⟨t, e⟩ => ⟨_, e, t, rfl⟩) (He.int_ok KX G (c.fact 85 (f := (.int "LATEST" 1000000000000)) rfl)),
    c_MOST_STOPS := (fun ⟨t, e⟩ => ⟨_, e, t, rfl⟩) (He.int_ok KX G (c.fact 86 (f := (.int "MOST_STOPS" 7)) rfl)),
    c_FIGURES := (fun ⟨t, e⟩ => ⟨_, e, t, rfl⟩) (He.str_ok KX G (c.fact 87 (f := (.str "FIGURES" "0123456789")) rfl)),
    c_MOST_FIGURES := (fun ⟨t, e⟩ => ⟨_, e, t, rfl⟩) (He.int_ok KX G (c.fact 88 (f := (.int "MOST_FIGURES" 15)) rfl)),
    m_HOME_WORDS := He.glo_ok KX G (c.fact 89 (f := (.glo "HOME_WORDS")) rfl),
    m_STOP_WORDS := He.glo_ok KX G (c.fact 90 (f := (.glo "STOP_WORDS")) rfl),
    m_abs := He.free_ok KX G (c.fact 91 (f := (.free "abs")) rfl),
    m_max := He.free_ok KX G (c.fact 92 (f := (.free "max")) rfl),
    m_tuple := He.free_ok KX G (c.fact 93 (f := (.free "tuple")) rfl),
    m_range := He.free_ok KX G (c.fact 94 (f := (.free "range")) rfl),
    m_min := He.free_ok KX G (c.fact 95 (f := (.free "min")) rfl),
    m_int := He.free_ok KX G (c.fact 96 (f := (.free "int")) rfl),
    m_list := He.free_ok KX G (c.fact 97 (f := (.free "list")) rfl),
    m_reversed := He.free_ok KX G (c.fact 98 (f := (.free "reversed")) rfl),
    m_len := He.free_ok KX G (c.fact 99 (f := (.free "len")) rfl),
    m_isinstance := He.free_ok KX G (c.fact 100 (f := (.free "isinstance")) rfl),
    m_dict := He.free_ok KX G (c.fact 101 (f := (.free "dict")) rfl),
    m_set := He.free_ok KX G (c.fact 102 (f := (.free "set")) rfl),
    ec_OffRoad := excCB_ok (exAt hx 0 rfl),
    ec_BadTime := excCB_ok (exAt hx 1 rfl),
    ec_BadRoad := excCB_ok (exAt hx 2 rfl),
    ec_TooMany := excCB_ok (exAt hx 3 rfl),
    ec_BadOrder := excCB_ok (exAt hx 4 rfl),
    ec_NoDay := excCB_ok (exAt hx 5 rfl),
    ec_Missed := excCB_ok (exAt hx 6 rfl),
    m_combinations := PySem.W.mg_of KX G (He.eqO_ok (exAt hx 7 rfl)),
    t_HOME_WORDS := tupCB_ok (exAt hx 8 rfl),
    t_STOP_WORDS := tupCB_ok (exAt hx 9 rfl)
  }
  have e := hfa.symm.trans T.m_law
  cases e
  have b := FunD.bindsA (ps := ["_law_script"]) F45 fun _ _ _ _ _ _ us hl => match us, hl with | [_], _ => rfl
  exact ⟨fd45, fun s v => b s [v] rfl, fun base _ _ => ok_law T⟩
end RV
open PySem PySem.W PySem.Calls PyProof.Rows
set_option maxRecDepth 100000 in
set_option maxHeartbeats 0 in
theorem PySem.Challenge.cw_routevan_k14_asked_in_turn_holds : PySem.Challenge.rw_routevan_k14_asked_in_turn.Holds := by
  w_on; o_law
  refine RV.head_imp (r := OpenLaw.row PySem.Challenge.rw_routevan_k14_asked_in_turn) (q := view (OpenLaw.row PySem.Challenge.rw_routevan_k14_asked_in_turn).prog [70]) (H := RV.hk) (ob := RV.ob) (M := 6500) (loose := RV.names) (d := HandSHeadRun.topDef (OpenLaw.row PySem.Challenge.rw_routevan_k14_asked_in_turn).prog 70) (kwd := []) RV.ob_eq
    (by kernel_rfl) (by kernel_rfl) RV.run (by kernel_rfl) (by kernel_rfl) (by kernel_rfl) (by rfl) (by first | assumption | decide +kernel) (by decide +kernel) ⟨rfl, rfl, rfl, rfl, rfl, by decide +kernel⟩ ?hw ?hc
  case hw => w_witness2
  case hc =>
    refine L2.walk_ofE (l := PySem.Challenge.rw_routevan_k14_asked_in_turn) (n := 63) (k := 12) (x := "_law_script") (CX := L2.CX0) rfl (by decide) (by kernel_rfl) ⟨rfl, by decide, by decide⟩ ?F (fun _ _ _ _ z => z)
    intro w mg fa h Y G hmg0
    obtain ⟨K, KX, c⟩ := Y
    have hmg : mg ("law" : PySem.Str) = some (.ref fa) := by
      have e : (HandSHeadRun.topDef (OpenLaw.row PySem.Challenge.rw_routevan_k14_asked_in_turn).prog 70).name = ("law" : PySem.Str) := by kernel_rfl
      rw [← e]
      exact hmg0
    obtain ⟨fd, hb, hF⟩ := RV.facts (P := (PySem.Challenge.rw_routevan_k14_asked_in_turn).prog) (w := w) KX G hmg c.t.d c.more
    exact ⟨K, fd, RV.sp_law K, KX, hb, fun H a ns hl _ hS => ⟨a, ns, rfl, hS, hl, fun _ => rfl⟩, hF⟩

