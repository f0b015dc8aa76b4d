import PyProof.Rows.All
import Wide.All
import OpenK.AllK
import Wide.FinOn
import KE.KStateDown
import Lean
import HandS.ForMost
import HandS.ForExc
import HandS.More
import HandS.Defaults
import HandS.IsInst
import HandS.ExcIs
import HandS.TryMany
import HandS.Evl
import HandS.Steps
import HandS.Style
import HandS.SetFor
import HandS.Strs
import HandS.Zip
import HandS.Conv
import HandS.Deep
import HandS.Head0
import HandS.Head1
import HandS.Head2
import HandS.HeadEnd
import HandS.HeadHook1
import HandS.HeadHook2
import HandS.HeadHook3
import HandS.HeadHook4
import HandS.HeadWalk
import HandS.TupLen
import HandS.SortKw
import HandS.Walk
import KE.KDictKeyed
import KE.KDictWalk
import KE.KEqDict
import PySem.Challenge.RW_routevan_k04_timetables
set_option Elab.async false
set_option linter.all false
set_option maxRecDepth 100000
set_option maxHeartbeats 2000000
local macro_rules | `(tactic| walk_at "side") => `(tactic| first | decide | omega | assumption | exact ⟨by decide, by decide⟩ | exact Or.inr ⟨by decide, by decide⟩ | exact Or.inl ⟨by decide, by decide⟩ | exact ⟨by omega, by omega⟩ | exact Evl.sz_of (Nat.le_of_ble_eq_true rfl))
local macro_rules | `(tactic| walk_at "seq") => `(tactic| first | assumption | exact L2.SqT.of (by assumption) | exact L2.SqL.of (by assumption))
local macro_rules | `(tactic| walk_at "go") => `(tactic| repeat (first
  | refine ⟨_, rfl, ?_⟩
  | refine ⟨_, _, rfl, rfl, ?_⟩
  | refine ⟨_, _, rfl, ?_⟩
  | refine ⟨rfl, ?_⟩
  | refine And.intro (by walk_at "side") ?_
  | refine ⟨_, _, _, _, rfl, rfl, (by walk_at "seq"), rfl, ?_⟩
  | refine ⟨_, _, rfl, Or.inl (by walk_at "seq"), ?_⟩
  | refine ⟨_, _, rfl, Or.inr (by walk_at "seq"), ?_⟩
  | refine ⟨_, _, rfl, (by walk_at "seq"), rfl, ?_⟩
  | refine ⟨_, _, _, _, rfl, rfl, (by walk_at "seq"), (by assumption), ?_⟩
  | refine ⟨_, _, rfl, (by walk_at "seq"), ?_⟩
  | refine ⟨_, _, _, rfl, (fun u e => e), (by assumption), ?_⟩))
namespace RV
open PySem PySem.Spec PyProof.Rows L2
open Evl (Ex)

/-! ### the text by places -/
def top (i : Nat) : Stmt := PySem.Challenge.pw_routevan_k04_timetables.main.body.getD i (.Pass ⟨0, 0, 0, 0⟩)
abbrev s_is_road : Stmt := top 13
abbrev N_is_road : List Str := ["road", "word", "length"]
theorem sc_is_road : FnScope N_is_road ["road"] (defScope s_is_road) := ⟨rfl, rfl, rfl, by decide +kernel, rfl, by decide +kernel, by decide +kernel⟩
abbrev s_has_place : Stmt := top 14
abbrev N_has_place : List Str := ["road", "place", "word", "length"]
theorem sc_has_place : FnScope N_has_place ["road", "place"] (defScope s_has_place) := ⟨rfl, rfl, rfl, by decide +kernel, rfl, by decide +kernel, by decide +kernel⟩
abbrev s_apart : Stmt := top 15
abbrev N_apart : List Str := ["road", "one", "other"]
theorem sc_apart : FnScope N_apart ["road", "one", "other"] (defScope s_apart) := ⟨rfl, rfl, rfl, by decide +kernel, rfl, by decide +kernel, by decide +kernel⟩
abbrev s_way : Stmt := top 16
abbrev N_way : List Str := ["road", "one", "other", "word", "length", "up"]
theorem sc_way : FnScope N_way ["road", "one", "other"] (defScope s_way) := ⟨rfl, rfl, rfl, by decide +kernel, rfl, by decide +kernel, by decide +kernel⟩
abbrev s_is_time : Stmt := top 20
abbrev N_is_time : List Str := ["number"]
theorem sc_is_time : FnScope N_is_time ["number"] (defScope s_is_time) := ⟨rfl, rfl, rfl, by decide +kernel, rfl, by decide +kernel, by decide +kernel⟩
abbrev s_check_stop : Stmt := top 21
abbrev N_check_stop : List Str := ["road", "stop", "place", "opens", "closes", "stay"]
theorem sc_check_stop : FnScope N_check_stop ["road", "stop"] (defScope s_check_stop) := ⟨rfl, rfl, rfl, by decide +kernel, rfl, by decide +kernel, by decide +kernel⟩
abbrev s_check_day : Stmt := top 22
abbrev N_check_day : List Str := ["road", "home", "start", "stops", "stop"]
theorem sc_check_day : FnScope N_check_day ["road", "home", "start", "stops"] (defScope s_check_day) := ⟨rfl, rfl, rfl, by decide +kernel, rfl, by decide +kernel, by decide +kernel⟩
abbrev s_Day___init : Stmt := inClass (top 23) 0
abbrev N_Day___init : List Str := ["self", "road", "home", "start", "stops"]
theorem sc_Day___init : FnScope N_Day___init ["self", "road", "home", "start", "stops"] (defScope s_Day___init) := ⟨rfl, rfl, rfl, by decide +kernel, rfl, by decide +kernel, by decide +kernel⟩
abbrev s_check_order : Stmt := top 24
abbrev N_check_order : List Str := ["day", "order", "number"]
theorem sc_check_order : FnScope N_check_order ["day", "order"] (defScope s_check_order) := ⟨rfl, rfl, rfl, by decide +kernel, rfl, by decide +kernel, by decide +kernel⟩
abbrev s_visit : Stmt := top 25
abbrev N_visit : List Str := ["day", "place", "leaves", "number", "there", "opens", "closes", "stay", "comes", "begins"]
theorem sc_visit : FnScope N_visit ["day", "place", "leaves", "number"] (defScope s_visit) := ⟨rfl, rfl, rfl, by decide +kernel, rfl, by decide +kernel, by decide +kernel⟩
abbrev s_timetable : Stmt := top 26
abbrev N_timetable : List Str := ["day", "order", "rows", "place", "leaves", "number", "row"]
theorem sc_timetable : FnScope N_timetable ["day", "order"] (defScope s_timetable) := ⟨rfl, rfl, rfl, by decide +kernel, rfl, by decide +kernel, by decide +kernel⟩
abbrev s_ends : Stmt := top 27
abbrev N_ends : List Str := ["day", "order", "rows", "place", "leaves"]
theorem sc_ends : FnScope N_ends ["day", "order"] (defScope s_ends) := ⟨rfl, rfl, rfl, by decide +kernel, rfl, by decide +kernel, by decide +kernel⟩
abbrev s_law_cell_at : Stmt := top 29
abbrev N_law_cell_at : List Str := ["_law_script", "_law_k"]
theorem sc_law_cell_at : FnScope N_law_cell_at ["_law_script", "_law_k"] (defScope s_law_cell_at) := ⟨rfl, rfl, rfl, by decide +kernel, rfl, by decide +kernel, by decide +kernel⟩
abbrev s_law_wide : Stmt := top 30
abbrev N_law_wide : List Str := ["_law_cell", "_law_bound"]
theorem sc_law_wide : FnScope N_law_wide ["_law_cell", "_law_bound"] (defScope s_law_wide) := ⟨rfl, rfl, rfl, by decide +kernel, rfl, by decide +kernel, by decide +kernel⟩
abbrev s_law_whole : Stmt := top 31
abbrev N_law_whole : List Str := ["_law_found"]
theorem sc_law_whole : FnScope N_law_whole ["_law_found"] (defScope s_law_whole) := ⟨rfl, rfl, rfl, by decide +kernel, rfl, by decide +kernel, by decide +kernel⟩
abbrev s_law_road_by : Stmt := top 32
abbrev N_law_road_by : List Str := ["_law_cell", "_law_length"]
theorem sc_law_road_by : FnScope N_law_road_by ["_law_cell"] (defScope s_law_road_by) := ⟨rfl, rfl, rfl, by decide +kernel, rfl, by decide +kernel, by decide +kernel⟩
abbrev s_law_places : Stmt := top 33
abbrev N_law_places : List Str := ["_law_road"]
theorem sc_law_places : FnScope N_law_places ["_law_road"] (defScope s_law_places) := ⟨rfl, rfl, rfl, by decide +kernel, rfl, by decide +kernel, by decide +kernel⟩
abbrev s_law_place_by : Stmt := top 34
abbrev N_law_place_by : List Str := ["_law_road", "_law_cell", "_law_many"]
theorem sc_law_place_by : FnScope N_law_place_by ["_law_road", "_law_cell"] (defScope s_law_place_by) := ⟨rfl, rfl, rfl, by decide +kernel, rfl, by decide +kernel, by decide +kernel⟩
abbrev s_law_apart : Stmt := top 35
abbrev N_law_apart : List Str := ["_law_road", "_law_one", "_law_other", "_law_gap"]
theorem sc_law_apart : FnScope N_law_apart ["_law_road", "_law_one", "_law_other"] (defScope s_law_apart) := ⟨rfl, rfl, rfl, by decide +kernel, rfl, by decide +kernel, by decide +kernel⟩
abbrev s_law_start_by : Stmt := top 36
abbrev N_law_start_by : List Str := ["_law_road", "_law_cell"]
theorem sc_law_start_by : FnScope N_law_start_by ["_law_road", "_law_cell"] (defScope s_law_start_by) := ⟨rfl, rfl, rfl, by decide +kernel, rfl, by decide +kernel, by decide +kernel⟩
abbrev s_law_stop_by : Stmt := top 37
abbrev N_law_stop_by : List Str := ["_law_road", "_law_start", "_law_script", "_law_k", "_law_place", "_law_cell", "_law_opens", "_law_closes", "_law_stay"]
theorem sc_law_stop_by : FnScope N_law_stop_by ["_law_road", "_law_start", "_law_script", "_law_k"] (defScope s_law_stop_by) := ⟨rfl, rfl, rfl, by decide +kernel, rfl, by decide +kernel, by decide +kernel⟩
abbrev s_law_stops_by : Stmt := top 38
abbrev N_law_stops_by : List Str := ["_law_road", "_law_start", "_law_script", "_law_many", "_law_k"]
theorem sc_law_stops_by : FnScope N_law_stops_by ["_law_road", "_law_start", "_law_script", "_law_many"] (defScope s_law_stops_by) := ⟨rfl, rfl, rfl, by decide +kernel, rfl, by decide +kernel, by decide +kernel⟩
abbrev s_law_order_by : Stmt := top 39
abbrev N_law_order_by : List Str := ["_law_script", "_law_many", "_law_order", "_law_left", "_law_k", "_law_at", "_law_cell", "_law_far", "_law_bad_here"]
theorem sc_law_order_by : FnScope N_law_order_by ["_law_script", "_law_many"] (defScope s_law_order_by) := ⟨rfl, rfl, rfl, by decide +kernel, rfl, by decide +kernel, by decide +kernel⟩
abbrev s_law_bad : Stmt := top 40
abbrev N_law_bad : List Str := ["_law_order", "_law_many", "_law_number"]
theorem sc_law_bad : FnScope N_law_bad ["_law_order", "_law_many"] (defScope s_law_bad) := ⟨rfl, rfl, rfl, by decide +kernel, rfl, by decide +kernel, by decide +kernel⟩
abbrev s_law_rows : Stmt := top 41
abbrev N_law_rows : List Str := ["_law_road", "_law_home", "_law_start", "_law_stops", "_law_order", "_law_rows_here", "_law_place", "_law_time", "_law_number", "_law_stop", "_law_comes", "_law_begins"]
theorem sc_law_rows : FnScope N_law_rows ["_law_road", "_law_home", "_law_start", "_law_stops", "_law_order"] (defScope s_law_rows) := ⟨rfl, rfl, rfl, by decide +kernel, rfl, by decide +kernel, by decide +kernel⟩
abbrev s_law_told : Stmt := top 42
abbrev N_law_told : List Str := ["_law_day", "_law_order"]
theorem sc_law_told : FnScope N_law_told ["_law_day", "_law_order"] (defScope s_law_told) := ⟨rfl, rfl, rfl, by decide +kernel, rfl, by decide +kernel, by decide +kernel⟩
abbrev s_law_ended : Stmt := top 43
abbrev N_law_ended : List Str := ["_law_day", "_law_order", "error", "_law_kinds"]
theorem sc_law_ended : FnScope N_law_ended ["_law_day", "_law_order"] (defScope s_law_ended) := ⟨rfl, rfl, rfl, by decide +kernel, rfl, by decide +kernel, by decide +kernel⟩
abbrev s_law_alike : Stmt := top 44
abbrev N_law_alike : List Str := ["_law_found", "_law_due", "_law_k", "_law_time"]
theorem sc_law_alike : FnScope N_law_alike ["_law_found", "_law_due"] (defScope s_law_alike) := ⟨rfl, rfl, rfl, by decide +kernel, rfl, by decide +kernel, by decide +kernel⟩
abbrev s_law_right : Stmt := top 45
abbrev N_law_right : List Str := ["_law_day", "_law_stops", "_law_order", "_law_handed", "_law_road", "_law_home", "_law_start", "_law_found", "_law_end", "_law_rows_here", "_law_due"]
theorem sc_law_right : FnScope N_law_right ["_law_day", "_law_stops", "_law_order", "_law_handed"] (defScope s_law_right) := ⟨rfl, rfl, rfl, by decide +kernel, rfl, by decide +kernel, by decide +kernel⟩
abbrev s_law : Stmt := top 46
abbrev N_law : List Str := ["_law_script", "_law_road", "_law_home", "_law_start", "_law_stops", "_law_good", "_law_order", "_law_day", "_law_handed", "_law_turned", "_law_k", "_law_other"]
theorem sc_law : FnScope N_law ["_law_script"] (defScope s_law) := ⟨rfl, rfl, rfl, by decide +kernel, rfl, by decide +kernel, by decide +kernel⟩
/-! ### words of our own -/
section
variable {X : Cx}
theorem pe_globE {x : Str} {v : V} {pos : Pos} (hg : Gl X x) (h : ∃ u, X.mg x = some u ∧ RelV v u) (hd : (x == ("__debug__" : Str)) = false := by decide) : PE X (.Name x pos) (tC v) := by
  obtain ⟨u, hm, r⟩ := h
  exact pe_glob hg hm r hd
end
theorem pe_eq {X : Cx} {e : Expr} {t t' : TE} (h : PE X e t) (q : t = t') : PE X e t' := q ▸ h
theorem pts_eq {X : Cx} {e : List Expr} {t t' : TT} (h : PTs X e t) (q : t = t') : PTs X e t' := q ▸ h
theorem pss_eq {X : Cx} {st : List Stmt} {t t' : TS} (h : PSs X st t) (e : t = t') : PSs X st t' := e ▸ h
theorem sizeOk {n : Nat} (h : n ≤ 100000) : n ≤ sizeLine := Evl.sz_of h
theorem szl {α : Type} {xs : List α} (h : Nat.ble xs.length 100000 = true := by rfl) : xs.length ≤ sizeLine := sizeOk (Nat.le_of_ble_eq_true h)
/-- a test's two ways -/
theorem iteB {b : Bool} {A B : Prop} (h1 : b = true → A) (h2 : b = false → B) : if b = true then A else B := by
  cases b with
  | true => exact h1 rfl
  | false => exact h2 rfl
theorem iteFb {b : Bool} {A B : Prop} (e : b = false) (h : B) : if b = true then A else B := by
  rw [e]
  exact iteF h
theorem iteTb {b : Bool} {A B : Prop} (e : b = true) (h : A) : if b = true then A else B := by
  rw [e]
  exact iteT h
theorem neSelf {v w : V} (e : v = w) : (!decide (v = w)) = false := by rw [decide_eq_true e]; rfl
theorem dec_eq {p r : Prop} {ip : Decidable p} {ir : Decidable r} (h : p ↔ r) : decide p = decide r := by
  by_cases c : p
  · rw [decide_eq_true c, decide_eq_true (h.mp c)]
  · rw [decide_eq_false c, decide_eq_false (fun z => c (h.mpr z))]
theorem dself {v : V} : decide (v = v) = true := decide_eq_true rfl
theorem odt {p : Prop} {i : Decidable p} (h : @decide p i = true) : p := of_decide_eq_true h
theorem odf {p : Prop} {i : Decidable p} (h : @decide p i = false) : ¬ p := of_decide_eq_false h
theorem decT {p : Prop} {i : Decidable p} (h : p) : @decide p i = true := decide_eq_true h
theorem decF {p : Prop} {i : Decidable p} (h : ¬ p) : @decide p i = false := decide_eq_false h
theorem nndec {p : Prop} {i : Decidable p} (h : (!@decide p i) = true) : ¬ p := fun z => by rw [decT z] at h; cases h
theorem ndec {p : Prop} {i : Decidable p} (h : (!@decide p i) = false) : p := Decidable.byContradiction fun z => by rw [decF z] at h; cases h
/-- a road as a value -/
def wordOf (ring : Bool) : Str := if ring then "ring" else "line"
def roadV (ring : Bool) (len : Int) : List V := [.str (wordOf ring), .int len]
theorem word_line (ring : Bool) : (V.str (wordOf ring) = V.str "line") ↔ ring = false := by cases ring <;> decide +kernel
theorem word_ring (ring : Bool) : (V.str (wordOf ring) = V.str "ring") ↔ ring = true := by cases ring <;> decide +kernel
/-- how many places a road has -/
def placesOf (ring : Bool) (len : Int) : Int := if ring then len else len + 1
/-- a new object leaves all -/
theorem ex_at {H H' : Hp} {a : Addr} {o : HO} (e : Ex H H') (h : H a = some o) : H' a = some o := e a o h
theorem atI_lt {α : Type} {xs : List α} {i : Int} (h0 : 0 ≤ i) (h1 : i < xs.length) : ∃ v, atI xs i = some v ∧ xs[i.toNat]? = some v := by
  have hl : i.toNat < xs.length := by omega
  refine ⟨xs[i.toNat], ?_, List.getElem?_eq_getElem hl⟩
  have q := atI_nat (xs := xs) (j := i.toNat) (v := xs[i.toNat]) (List.getElem?_eq_getElem hl)
  have e : ((i.toNat : Nat) : Int) = i := by omega
  rw [e] at q
  exact q
/-- what a callee raises, wished for at slots of the known number -/
theorem passes_len {X : Cx} {W : WX} {F : XK} {n : Nat} (tk : Takes X W) (hn : X.N.length = n) (hw : ∀ (c : Value) (o : Option Addr) (τ : L2.St) (G : Hp), τ.length = n → F c o G → W c o τ G) : Passes (L2.CX X.prog X.w) X F := by
  intro pins τ G s e s' I c
  refine tk e s' (XE.of_call I (fun c o G' h => ?_) c)
  exact hw c o τ G' (I.len.trans hn) h
/-! #### isinstance of a caught error, whatever its class -/
def rIsX (K : PySem.W.Frag) (a : Addr) (cls : Value) (d : Option Addr) : List V → Hp → VK → Prop := fun xs H Q => ∃ D, cls = .ref D ∧ d = none ∧ ExcC K D ∧ rIsE K D a xs H Q
theorem call_isX {X : Cx} {a : Addr} {cls : Value} {d : Option Addr} {oe : Obj} {pn : List (Addr × Obj)} (hz : Zc cls d oe) (hf : ∃ vs, oe.data = .fields vs) : CallR (X.suite a ((a, oe) :: pn)) (.builtin "isinstance") (rIsX X.K a cls d) := by
  intro pins s σ H xs us Q I r h
  obtain ⟨D, rfl, rfl, C, h⟩ := h
  exact call_isE C hz hf pins s σ H xs us Q I r h
def excCB (K : PySem.W.Frag) (D : Addr) : Bool := decide (PySem.W.findIn K (.ref D) "__getattribute__" = some (some (.builtin "BaseException.__getattribute__"))) && (decide (PySem.W.findIn K (.ref D) "__getattr__" = some none) && (decide (PySem.W.subIn K (.ref D) (.type "BaseException") = some true) && (PySem.W.hasDictIn K D && (decide (PySem.W.findIn K (.ref D) "__class__" = some (some (.builtin "object.__class__"))) && (decide (PySem.W.specialIn K (.builtin "object.__class__") "__get__" = some (some (.builtin "getset_descriptor.__get__"))) && (decide (PySem.W.takesIn K (.builtin "object.__class__") = some true) && decide (PySem.W.mroIn K D (.type "object") = some true)))))))
theorem excCB_ok {K : PySem.W.Frag} {D : Addr} (h : excCB K D = true) : ExcC K D := by
  obtain ⟨h1, h⟩ := He.ba h
  obtain ⟨h2, h⟩ := He.ba h
  obtain ⟨h3, h⟩ := He.ba h
  obtain ⟨h4, h⟩ := He.ba h
  obtain ⟨h5, h⟩ := He.ba h
  obtain ⟨h6, h⟩ := He.ba h
  obtain ⟨h7, h8⟩ := He.ba h
  exact ⟨of_decide_eq_true h1, of_decide_eq_true h2, of_decide_eq_true h3, h4, of_decide_eq_true h5, of_decide_eq_true h6, of_decide_eq_true h7, of_decide_eq_true h8⟩
/-- what an own class must have, so that isinstance asks its instances rightly -/
structure InsC (K : PySem.W.Frag) (C : Addr) : Prop where
  ha : PySem.W.findIn K (.ref C) "__class__" = some (some (.builtin "object.__class__"))
  hn : PySem.W.specialIn K (.builtin "object.__class__") "__get__" = some (some (.builtin "getset_descriptor.__get__"))
  ht : PySem.W.takesIn K (.builtin "object.__class__") = some true
  hm : PySem.W.mroIn K C (.type "object") = some true
def insCB (K : PySem.W.Frag) (D : Addr) : Bool := decide (PySem.W.findIn K (.ref D) "__class__" = some (some (.builtin "object.__class__"))) && (decide (PySem.W.specialIn K (.builtin "object.__class__") "__get__" = some (some (.builtin "getset_descriptor.__get__"))) && (decide (PySem.W.takesIn K (.builtin "object.__class__") = some true) && decide (PySem.W.mroIn K D (.type "object") = some true)))
theorem insCB_ok {K : PySem.W.Frag} {D : Addr} (h : insCB K D = true) : InsC K D := by
  obtain ⟨h1, h⟩ := He.ba h
  obtain ⟨h2, h⟩ := He.ba h
  obtain ⟨h3, h4⟩ := He.ba h
  exact ⟨of_decide_eq_true h1, of_decide_eq_true h2, of_decide_eq_true h3, of_decide_eq_true h4⟩
/-! ### roads reckoned -/
def wayOf (ring : Bool) (len one other : Int) : Int := if ring = true then (if 2 * ((other - one) % len) ≤ len then (other - one) % len else (other - one) % len - len) else other - one
def apartOf (ring : Bool) (len one other : Int) : Int := if wayOf ring len one other < 0 then - wayOf ring len one other else wayOf ring len one other
/-! ### days: stops as data, what is refused -/
abbrev Stp := Int × Int × Int × Int
def stopV (s : Stp) : List V := [.int s.1, .int s.2.1, .int s.2.2.1, .int s.2.2.2]
def StopsR (K : PySem.W.Frag) (H : Hp) (ps : List Addr) (sts : List Stp) : Prop := Paired (fun p s => SqT K H p (stopV s)) ps sts
theorem StopsR.ex {K : PySem.W.Frag} {H H' : Hp} {ps : List Addr} {sts : List Stp} (e : Ex H H') (h : StopsR K H ps sts) : StopsR K H' ps sts := Paired.mapP h fun _ _ q => Evl.ex_t e q
theorem StopsR.len {K : PySem.W.Frag} {H : Hp} {ps : List Addr} {sts : List Stp} (h : StopsR K H ps sts) : ps.length = sts.length := Paired.length h
theorem StopsR.get {K : PySem.W.Frag} {H : Hp} : ∀ {ps : List Addr} {sts : List Stp} {i : Nat} {p : Addr}, StopsR K H ps sts → ps[i]? = some p → ∃ s, sts[i]? = some s ∧ SqT K H p (stopV s)
  | [], _, i, p, _, e => by simp at e
  | _ :: _, [], _, _, h, _ => by cases h
  | a :: as, s :: ss, 0, p, h, e => by
    cases h with
    | cons r t =>
      simp at e
      subst e
      exact ⟨s, rfl, r⟩
  | a :: as, s :: ss, i + 1, p, h, e => by
    cases h with
    | cons r t =>
      obtain ⟨z, h1, h2⟩ := StopsR.get (i := i) (p := p) t (by simpa using e)
      exact ⟨z, by simpa using h1, h2⟩
theorem map_ref_get {ps : List Addr} {i : Nat} {x : V} (h : (ps.map V.ref)[i]? = some x) : ∃ p, ps[i]? = some p ∧ x = .ref p := by
  rw [List.getElem?_map] at h
  cases e : ps[i]? with
  | none => rw [e] at h; cases h
  | some p => rw [e] at h; exact ⟨p, rfl, (Option.some.inj h).symm⟩
theorem map_int_get {ps : List Int} {i : Nat} {x : V} (h : (ps.map V.int)[i]? = some x) : ∃ p, ps[i]? = some p ∧ x = .int p := by
  rw [List.getElem?_map] at h
  cases e : ps[i]? with
  | none => rw [e] at h; cases h
  | some p => rw [e] at h; exact ⟨p, rfl, (Option.some.inj h).symm⟩
theorem SqL.at_ins {K : PySem.W.Frag} {H : Hp} {a p C dx : Addr} {fs : List (Str × V)} {o : HO} {xs : List V} (hp : H p = some (.ins C dx fs)) (h : SqL K H a xs) : SqL K (upd H p o) a xs := by
  rcases h with (h | ⟨ob, h⟩) | h
  · exact .inl (.inl (by rw [upd_ne (ne_of h hp (by intro z; cases z))]; exact h))
  · exact .inl (.inr ⟨ob, by rw [upd_ne (ne_of h hp (by intro z; cases z))]; exact h⟩)
  · exact .inr h
theorem SqT.at_ins {K : PySem.W.Frag} {H : Hp} {a p C dx : Addr} {fs : List (Str × V)} {o : HO} {xs : List V} (hp : H p = some (.ins C dx fs)) (h : SqT K H a xs) : SqT K (upd H p o) a xs := by
  rcases h with (h | ⟨ob, h⟩) | h
  · exact .inl (.inl (by rw [upd_ne (ne_of h hp (by intro z; cases z))]; exact h))
  · exact .inl (.inr ⟨ob, by rw [upd_ne (ne_of h hp (by intro z; cases z))]; exact h⟩)
  · exact .inr h
theorem SqT.at_lst {K : PySem.W.Frag} {H : Hp} {a p : Addr} {ys : List V} {o : HO} {xs : List V} (hp : H p = some (.lst ys)) (h : SqT K H a xs) : SqT K (upd H p o) a xs := by
  rcases h with (h | ⟨ob, h⟩) | h
  · exact .inl (.inl (by rw [upd_ne (ne_of h hp (by intro z; cases z))]; exact h))
  · exact .inl (.inr ⟨ob, by rw [upd_ne (ne_of h hp (by intro z; cases z))]; exact h⟩)
  · exact .inr h
theorem StopsR.at_lst {K : PySem.W.Frag} {H : Hp} {p : Addr} {ys : List V} {o : HO} {ps : List Addr} {sts : List Stp} (hp : H p = some (.lst ys)) (h : StopsR K H ps sts) : StopsR K (upd H p o) ps sts := Paired.mapP h fun _ _ q => SqT.at_lst hp q
theorem StopsR.snoc {K : PySem.W.Frag} {H : Hp} {p : Addr} {s : Stp} (hs : SqT K H p (stopV s)) : ∀ {ps : List Addr} {sts : List Stp}, StopsR K H ps sts → StopsR K H (ps ++ [p]) (sts ++ [s])
  | [], [], _ => .cons hs .nil
  | [], _ :: _, h => by cases h
  | _ :: _, [], h => by cases h
  | _ :: _, _ :: _, h => by
    cases h with
    | cons r t => exact .cons r (StopsR.snoc hs t)
inductive Flt where
  | road | off | time | many
  deriving DecidableEq
def fltC (K : PySem.W.Frag) : Flt → Addr
  | .road => He.ga K "BadRoad"
  | .off => He.ga K "OffRoad"
  | .time => He.ga K "BadTime"
  | .many => He.ga K "TooMany"
def fltW : Flt → Str
  | .road => "road"
  | .off => "off"
  | .time => "time"
  | .many => "many"
def isTime (n : Int) : Prop := 0 ≤ n ∧ n ≤ 1000000000000
instance (n : Int) : Decidable (isTime n) := inferInstanceAs (Decidable (_ ∧ _))
def onRoad (ring : Bool) (len p : Int) : Prop := 0 ≤ p ∧ p < placesOf ring len
instance (ring : Bool) (len p : Int) : Decidable (onRoad ring len p) := inferInstanceAs (Decidable (_ ∧ _))
def stopFlt (ring : Bool) (len : Int) (s : Stp) : Option Flt := if ¬ onRoad ring len s.1 then some .off else if ¬ (isTime s.2.1 ∧ isTime s.2.2.1 ∧ isTime s.2.2.2) then some .time else if s.2.2.1 < s.2.1 then some .time else none
def stopsFlt (ring : Bool) (len : Int) : List Stp → Option Flt
  | [] => none
  | s :: r => match stopFlt ring len s with
    | some f => some f
    | none => stopsFlt ring len r
def isRoad (w : Str) (len : Int) : Prop := (w = "line" ∨ w = "ring") ∧ 1 ≤ len ∧ len ≤ 1000000000
instance (w : Str) (len : Int) : Decidable (isRoad w len) := inferInstanceAs (Decidable (_ ∧ _))
def dayFlt (w : Str) (len home start : Int) (sts : List Stp) : Option Flt := if ¬ isRoad w len then some .road else if ¬ onRoad (decide (w = "ring")) len home then some .off else if ¬ isTime start then some .time else if 7 < sts.length then some .many else stopsFlt (decide (w = "ring")) len sts
theorem in_roads (w : Str) : inV (.str w) [.str "line", .str "ring"] = decide (w = "line" ∨ w = "ring") := by
  by_cases h1 : w = "line"
  · subst h1
    decide +kernel
  · by_cases h2 : w = "ring"
    · subst h2
      decide +kernel
    · rw [decide_eq_false (by rintro (h | h); exact h1 h; exact h2 h)]
      have e1 : ("line" == w) = false := beq_eq_false_iff_ne.mpr (Ne.symm h1)
      have e2 : ("ring" == w) = false := beq_eq_false_iff_ne.mpr (Ne.symm h2)
      show ((eqV (.str "line") (.str w)) || ((eqV (.str "ring") (.str w)) || false)) = false
      show ((("line" : Str) == w) || ((("ring" : Str) == w) || false)) = false
      rw [e1, e2]; rfl
theorem isRoad_word {w : Str} {len : Int} (h : isRoad w len) : w = wordOf (decide (w = "ring")) ∧ 1 ≤ len := by
  obtain ⟨h1 | h1, h2, _⟩ := h
  · subst h1
    exact ⟨by decide +kernel, h2⟩
  · subst h1
    exact ⟨by decide +kernel, h2⟩
def dayFs (r l : Addr) (home start : Int) : List (Str × V) := [("road", .ref r), ("home", .int home), ("start", .int start), ("stops", .ref l)]
/-- a day as it stands: r its road, l its list of stops -/
def DayAt (K : PySem.W.Frag) (H : Hp) (d r l : Addr) (w : Str) (len home start : Int) (ps : List Addr) (sts : List Stp) : Prop :=
  (∃ dx, H d = some (.ins (He.ga K "Day") dx (dayFs r l home start))) ∧ SqT K H r [.str w, .int len] ∧ H l = some (.lst (ps.map V.ref)) ∧ StopsR K H ps sts
theorem DayAt.ex {K : PySem.W.Frag} {H H' : Hp} {d r l : Addr} {w : Str} {len home start : Int} {ps : List Addr} {sts : List Stp} (e : Ex H H') (h : DayAt K H d r l w len home start ps sts) : DayAt K H' d r l w len home start ps sts := by
  obtain ⟨⟨dx, h1⟩, h2, h3, h4⟩ := h
  exact ⟨⟨dx, e _ _ h1⟩, Evl.ex_t e h2, e _ _ h3, h4.ex e⟩
/-- another list may change -/
theorem DayAt.at_lst {K : PySem.W.Frag} {H : Hp} {d r l p : Addr} {w : Str} {len home start : Int} {ps : List Addr} {sts : List Stp} {ys : List V} {o : HO} (hp : H p = some (.lst ys)) (ne : l ≠ p) (h : DayAt K H d r l w len home start ps sts) : DayAt K (upd H p o) d r l w len home start ps sts := by
  obtain ⟨⟨dx, h1⟩, h2, h3, h4⟩ := h
  exact ⟨⟨dx, by rw [upd_ne (ne_of h1 hp (by intro z; cases z))]; exact h1⟩, SqT.at_lst hp h2, by rw [upd_ne ne]; exact h3, h4.at_lst hp⟩
def goodStop (ring : Bool) (len : Int) (s : Stp) : Prop := onRoad ring len s.1 ∧ 0 ≤ s.2.1 ∧ s.2.1 ≤ s.2.2.1 ∧ s.2.2.1 ≤ 1000000000000 ∧ 0 ≤ s.2.2.2 ∧ s.2.2.2 ≤ 1000000000000
theorem cut_from {xs : List V} {k : Nat} (h : k ≤ xs.length) : cutV xs (some (k : Int)) none = xs.drop k := by
  unfold cutV
  rw [HT.sIx_nat, HT.sIx_none, Nat.min_eq_left h]
  rw [List.take_of_length_le]
  rw [List.length_drop]
  omega
theorem cut_to {xs : List V} {k : Nat} (h : k ≤ xs.length) : cutV xs none (some (k : Int)) = xs.take k := by
  unfold cutV
  rw [HT.sIx_nat, HT.sIx_none, Nat.min_eq_left h]
  rfl
/-! ### data compared -/
def stopD (s : Stp) : PyData := .tuple [.int s.1, .int s.2.1, .int s.2.2.1, .int s.2.2.2]
def stopsD (sts : List Stp) : PyData := .list (sts.map stopD)
theorem stop_dp {K : PySem.W.Frag} {H : Hp} {p : Addr} {s : Stp} (h : SqT K H p (stopV s)) : Dp K H (.ref p) (stopD s) := .tup h (.cons (.int _) (.cons (.int _) (.cons (.int _) (.cons (.int _) .nil))))
theorem stops_dpAll {K : PySem.W.Frag} {H : Hp} : ∀ {ps : List Addr} {sts : List Stp}, StopsR K H ps sts → DpAll K H (ps.map V.ref) (sts.map stopD)
  | [], [], _ => .nil
  | [], _ :: _, h => by cases h
  | _ :: _, [], h => by cases h
  | _ :: _, _ :: _, h => by
    cases h with
    | cons r t => exact .cons (stop_dp r) (stops_dpAll t)
theorem stops_dp {K : PySem.W.Frag} {H : Hp} {l : Addr} {ps : List Addr} {sts : List Stp} (hl : SqL K H l (ps.map V.ref)) (h : StopsR K H ps sts) : Dp K H (.ref l) (stopsD sts) := .lst hl (stops_dpAll h)
theorem canLay_stops : ∀ sts : List Stp, PyData.canLayAll0 (sts.map stopD) = true
  | [] => by simp [PyData.canLayAll0]
  | s :: r => by
    have ih := canLay_stops r
    simp only [List.map_cons, PyData.canLayAll0, ih, Bool.and_true]
    simp [stopD, PyData.canLay0, PyData.canLayAll0]
theorem depth_stops : ∀ sts : List Stp, PyData.depthAll (sts.map stopD) ≤ 3
  | [] => by simp [PyData.depthAll]
  | s :: r => by
    have ih := depth_stops r
    simp only [List.map_cons, PyData.depthAll]
    have : PyData.depth (stopD s) ≤ 3 := by simp [stopD, PyData.depth, PyData.depthAll]
    omega
theorem shaped_stops (sts : List Stp) : SeqAt.shaped (stopsD sts) = true := by
  have h1 := canLay_stops sts
  have h2 := depth_stops sts
  unfold SeqAt.shaped stopsD
  rw [Bool.and_eq_true]
  refine ⟨by simpa [PyData.canLay0] using h1, decide_eq_true ?_⟩
  simp only [PyData.depth]
  omega
theorem eqv_self {d : PyData} (h : SeqAt.shaped d = true) : PyData.eqv d d = true := SeqAt.eqv_refl d (SeqAt.canLay_of_shaped h)

/-! ### how many different numbers -/
theorem first_len (ns : List Int) : ∀ i, i ≤ ns.length → ((firstMet (fun j => ns.getD j 0) i).length ≤ i ∧ ((firstMet (fun j => ns.getD j 0) i).length = i → firstMet (fun j => ns.getD j 0) i = ns.take i ∧ (ns.take i).Nodup))
  | 0, _ => ⟨Nat.le_refl _, fun _ => ⟨rfl, List.nodup_nil⟩⟩
  | i + 1, hi => by
    obtain ⟨h1, h2⟩ := first_len ns i (Nat.le_of_lt hi)
    have at_i : ns.getD i 0 = ns[i]'hi := by
      rw [List.getD_eq_getElem?_getD, List.getElem?_eq_getElem hi]; rfl
    have tk : ns.take (i + 1) = ns.take i ++ [ns[i]'hi] := by
      rw [List.take_succ, List.getElem?_eq_getElem hi]; rfl
    have st : firstMet (fun j => ns.getD j 0) (i + 1) = if (firstMet (fun j => ns.getD j 0) i).any (· == ns.getD i 0) then firstMet (fun j => ns.getD j 0) i else firstMet (fun j => ns.getD j 0) i ++ [ns.getD i 0] := firstMet_succ _ _
    rw [st]
    by_cases c : (firstMet (fun j => ns.getD j 0) i).any (· == ns.getD i 0) = true
    · rw [if_pos c]
      exact ⟨Nat.le_succ_of_le h1, fun z => by omega⟩
    · rw [if_neg c, List.length_append, List.length_singleton]
      refine ⟨Nat.succ_le_succ h1, fun z => ?_⟩
      obtain ⟨e, nd⟩ := h2 (by omega)
      rw [e, at_i, tk]
      refine ⟨rfl, ?_⟩
      rw [List.nodup_append]
      refine ⟨nd, (by simp), fun x hx y hy => ?_⟩
      rw [List.mem_singleton.mp hy]
      rintro rfl
      refine c ?_
      rw [e, at_i]
      exact List.any_eq_true.mpr ⟨_, hx, beq_self_eq_true _⟩
theorem ints_are : ∀ {ns : List Int} {us : List Value}, Vals (ns.map V.int) us → IntsAre us ns
  | [], _, h => by cases h; exact .nil
  | n :: r, _, h => by
    cases h with
    | cons a b =>
      obtain ⟨k, rfl⟩ := a
      exact .cons n k (ints_are b)
def tLenset (K : PySem.W.Frag) (ta : TE) : TE := fun σ H Q => ta σ H fun x H1 => ∃ (l : Addr) (ns : List Int), x = .ref l ∧ SqL K H1 l (ns.map V.int) ∧ ns.length ≤ 4000 ∧ ∀ m : Nat, (ns.Nodup → m = ns.length) → (¬ ns.Nodup → m < ns.length) → Q (.int (m : Nat)) H1
theorem pe_lenset {X : Cx} {a : Expr} {ta : TE} {p p2 q pos : Pos} (gl : Gl X "len") (ml : X.mg "len" = none) (gs : Gl X "set") (ms : X.mg "set" = none) (ha : PE X a ta) (calm : X.calm = true)
    (na : starEach [a] X.env = (false, eval a X.env) :: starEach [] X.env := by rfl) : PE X (.Call (.Name "len" p) [.Call (.Name "set" p2) [a] [] q] [] pos) (tLenset X.K ta) := by
  refine ⟨fun ps0 st0 σ0 H0 W0 Inv0 asked => ?_⟩
  have inner := ha.run ps0 st0 σ0 H0 _ Inv0 asked
  refine Call_ (ld_blt Inv0 gl ml boot_len (callWith_builtin1 (args_cons ?_ rfl) rfl rfl))
  refine Call_ (ld_blt Inv0 gs ms boot_set (callWith_type1 (args_cons (thn inner ?_) na) na rfl))
  rintro v1 st1 ⟨x1, H1, Inv1, rel1, l, ns, rfl, sq, most, wish⟩
  refine args_nil ?_
  cases rel1
  obtain ⟨vals, relv, pl, _⟩ := Inv1.list sq
  have same : vals.toArray.size = ns.length := by
    rw [List.size_toArray, ← relv.length]; exact List.length_map _
  refine call_set_list (Inv1.ok.hd calm) pl.isList (by simpa using ints_are relv) (by rw [same]; unfold scanBound; omega) fun heap2 tk2 isSet kept => args_nil ?_
  rw [same] at isSet
  obtain ⟨ob, es, ep, t, atS, isS, dataS, _, _, _, fits, count⟩ := isSet
  obtain ⟨f1, f2⟩ := first_len ns ns.length (Nat.le_refl _)
  have Inv2 : Inv X ps0 σ0 H1 { st1 with heap := heap2, toks := tk2 } := Inv1.kept fun b o e => kept b o (Heap.lt_size e) e
  refine call_len_set atS isS dataS fits (by rw [count]; omega) ⟨.int ((firstMet (fun j => ns.getD j 0) ns.length).length : Nat), H1, Inv2.tok _, ⟨_, by rw [count]⟩, wish _ (fun nd => ?_) (fun nn => ?_)⟩
  · have e := RZ.firstMet_nodup nd ns.length (Nat.le_refl _)
    rw [e, List.take_length]
  · refine Nat.lt_of_le_of_ne f1 fun z => nn ?_
    have nd := (f2 z).2
    rw [List.take_length] at nd
    exact nd
/-! ### orders -/
def ordOk (ns : List Int) (many : Nat) : Prop := (∀ x ∈ ns, 0 ≤ x ∧ x < many) ∧ ns.Nodup
abbrev Row := Int × Int × Int
def rowV (r : Row) : List V := [.int r.1, .int r.2.1, .int r.2.2]
def RowsR (H : Hp) (qs : List Addr) (rs : List Row) : Prop := Paired (fun p s => H p = some (.tup (rowV s))) qs rs
theorem RowsR.ex {H H' : Hp} {qs : List Addr} {rs : List Row} (e : Ex H H') (h : RowsR H qs rs) : RowsR H' qs rs := Paired.mapP h fun _ _ q => e _ _ q
theorem RowsR.len {H : Hp} {qs : List Addr} {rs : List Row} (h : RowsR H qs rs) : qs.length = rs.length := Paired.length h
theorem RowsR.at_lst {H : Hp} {p : Addr} {ys : List V} {o : HO} {qs : List Addr} {rs : List Row} (hp : H p = some (.lst ys)) (h : RowsR H qs rs) : RowsR (upd H p o) qs rs := Paired.mapP h fun _ _ q => by rw [upd_ne (ne_of q hp (by intro z; cases z))]; exact q
theorem RowsR.snoc {H : Hp} {p : Addr} {s : Row} (hs : H p = some (.tup (rowV s))) : ∀ {qs : List Addr} {rs : List Row}, RowsR H qs rs → RowsR H (qs ++ [p]) (rs ++ [s])
  | [], [], _ => .cons hs .nil
  | [], _ :: _, h => by cases h
  | _ :: _, [], h => by cases h
  | _ :: _, _ :: _, h => by
    cases h with
    | cons r t => exact .cons r (RowsR.snoc hs t)
theorem RowsR.get {H : Hp} : ∀ {qs : List Addr} {rs : List Row} {i : Nat} {s : Row}, RowsR H qs rs → rs[i]? = some s → ∃ p, qs[i]? = some p ∧ H p = some (.tup (rowV s))
  | _, [], i, s, _, e => by simp at e
  | [], _ :: _, _, _, h, _ => by cases h
  | a :: as, x :: ss, 0, s, h, e => by
    cases h with
    | cons r t =>
      simp at e
      subst e
      exact ⟨a, rfl, r⟩
  | a :: as, x :: ss, i + 1, s, h, e => by
    cases h with
    | cons r t =>
      obtain ⟨z, h1, h2⟩ := RowsR.get (i := i) (s := s) t (by simpa using e)
      exact ⟨z, by simpa using h1, h2⟩
theorem split_last {α : Type} (xs : List α) : xs = [] ∨ ∃ ys y, xs = ys ++ [y] := by
  rcases List.eq_nil_or_concat xs with h | ⟨ys, y, h⟩
  · exact .inl h
  · exact .inr ⟨ys, y, by rw [h, List.concat_eq_append]⟩
theorem RowsR.last {H : Hp} {qs : List Addr} {rs : List Row} {x : Row} (h : RowsR H qs (rs ++ [x])) : ∃ qs' p, qs = qs' ++ [p] ∧ H p = some (.tup (rowV x)) := by
  obtain ⟨p, e, hp⟩ := h.get (i := rs.length) (s := x) (by simp)
  refine ⟨qs.take rs.length, p, ?_, hp⟩
  have hl := h.len
  rw [List.length_append, List.length_singleton] at hl
  have e2 : qs.take (rs.length + 1) = qs.take rs.length ++ [p] := by rw [List.take_succ, e]; rfl
  rw [← e2, List.take_of_length_le (by omega)]
theorem StopsR.at {K : PySem.W.Frag} {H : Hp} : ∀ {ps : List Addr} {sts : List Stp} {i : Nat} {s : Stp}, StopsR K H ps sts → sts[i]? = some s → ∃ p, ps[i]? = some p ∧ SqT K H p (stopV s)
  | _, [], i, s, _, e => by simp at e
  | [], _ :: _, _, _, h, _ => by cases h
  | a :: as, x :: ss, 0, s, h, e => by
    cases h with
    | cons r t =>
      simp at e
      subst e
      exact ⟨a, rfl, r⟩
  | a :: as, x :: ss, i + 1, s, h, e => by
    cases h with
    | cons r t =>
      obtain ⟨z, h1, h2⟩ := StopsR.at (i := i) (s := s) t (by simpa using e)
      exact ⟨z, by simpa using h1, h2⟩
/-- the stop of a number -/
def stAt (sts : List Stp) (n : Int) : Stp := (sts[n.toNat]?).getD (0, 0, 0, 0)
theorem stAt_eq {sts : List Stp} {n : Int} (h0 : 0 ≤ n) (h1 : n < sts.length) : sts[n.toNat]? = some (stAt sts n) := by
  have hl : n.toNat < sts.length := by omega
  unfold stAt
  rw [List.getElem?_eq_getElem hl]
  rfl
theorem stop_val {K : PySem.W.Frag} {H : Hp} {ps : List Addr} {sts : List Stp} {n : Int} (hP : StopsR K H ps sts) (h0 : 0 ≤ n) (h1 : n < sts.length) : ∃ p, atI (ps.map V.ref) n = some (.ref p) ∧ SqT K H p (stopV (stAt sts n)) := by
  obtain ⟨p, e, hp⟩ := hP.at (stAt_eq h0 h1)
  refine ⟨p, ?_, hp⟩
  have q := atI_nat (xs := ps.map V.ref) (j := n.toNat) (v := .ref p) (by rw [List.getElem?_map, e]; rfl)
  have ez : ((n.toNat : Nat) : Int) = n := by omega
  rw [ez] at q
  exact q
def maxOf (i j : Int) : Int := if j > i then j else i
/-- what the timetable is, from a place and a time on; none: missed -/
def rowsOf (ring : Bool) (len : Int) (sts : List Stp) : Int → Int → List Int → Option (List Row)
  | _, _, [] => some []
  | pl, t, n :: r => if t + apartOf ring len pl (stAt sts n).1 > (stAt sts n).2.2.1 then none else
    (rowsOf ring len sts (stAt sts n).1 (maxOf (t + apartOf ring len pl (stAt sts n).1) (stAt sts n).2.1 + (stAt sts n).2.2.2) r).map fun rs => (t + apartOf ring len pl (stAt sts n).1, maxOf (t + apartOf ring len pl (stAt sts n).1) (stAt sts n).2.1, maxOf (t + apartOf ring len pl (stAt sts n).1) (stAt sts n).2.1 + (stAt sts n).2.2.2) :: rs
theorem rows_miss {ring : Bool} {len pl t n : Int} {sts : List Stp} {r : List Int} (h : t + apartOf ring len pl (stAt sts n).1 > (stAt sts n).2.2.1) : rowsOf ring len sts pl t (n :: r) = none := by rw [rowsOf, if_pos h]
theorem rows_step {ring : Bool} {len pl t n : Int} {sts : List Stp} {r : List Int} (h : ¬ t + apartOf ring len pl (stAt sts n).1 > (stAt sts n).2.2.1) : rowsOf ring len sts pl t (n :: r) = (rowsOf ring len sts (stAt sts n).1 (maxOf (t + apartOf ring len pl (stAt sts n).1) (stAt sts n).2.1 + (stAt sts n).2.2.2) r).map fun rs => (t + apartOf ring len pl (stAt sts n).1, maxOf (t + apartOf ring len pl (stAt sts n).1) (stAt sts n).2.1, maxOf (t + apartOf ring len pl (stAt sts n).1) (stAt sts n).2.1 + (stAt sts n).2.2.2) :: rs := by rw [rowsOf, if_neg h]
theorem map_map_app {o : Option (List Row)} {a b : List Row} {x : Row} (h : b = a ++ [x]) : (o.map fun rs => x :: rs).map (fun rs => a ++ rs) = o.map fun rs => b ++ rs := by
  subst h
  cases o <;> simp
/-! ### what the top has left -/
structure Txt (K : PySem.W.Frag) (mg : Str → Option Value) (D : Str → FuncData) : Prop where
  F_is_road : FunD K "is_road" "is_road" (defArgs s_is_road) (defBody s_is_road) (defScope s_is_road) [] [] (He.ga K "is_road") (D "is_road")
  m_is_road : mg "is_road" = some (.ref (He.ga K "is_road"))
  b_is_road : Binds K (D "is_road") ["road"] []
  F_has_place : FunD K "has_place" "has_place" (defArgs s_has_place) (defBody s_has_place) (defScope s_has_place) [] [] (He.ga K "has_place") (D "has_place")
  m_has_place : mg "has_place" = some (.ref (He.ga K "has_place"))
  b_has_place : Binds K (D "has_place") ["road", "place"] []
  F_apart : FunD K "apart" "apart" (defArgs s_apart) (defBody s_apart) (defScope s_apart) [] [] (He.ga K "apart") (D "apart")
  m_apart : mg "apart" = some (.ref (He.ga K "apart"))
  b_apart : Binds K (D "apart") ["road", "one", "other"] []
  F_way : FunD K "way" "way" (defArgs s_way) (defBody s_way) (defScope s_way) [] [] (He.ga K "way") (D "way")
  m_way : mg "way" = some (.ref (He.ga K "way"))
  b_way : Binds K (D "way") ["road", "one", "other"] []
  F_is_time : FunD K "is_time" "is_time" (defArgs s_is_time) (defBody s_is_time) (defScope s_is_time) [] [] (He.ga K "is_time") (D "is_time")
  m_is_time : mg "is_time" = some (.ref (He.ga K "is_time"))
  b_is_time : Binds K (D "is_time") ["number"] []
  F_check_stop : FunD K "check_stop" "check_stop" (defArgs s_check_stop) (defBody s_check_stop) (defScope s_check_stop) [] [] (He.ga K "check_stop") (D "check_stop")
  m_check_stop : mg "check_stop" = some (.ref (He.ga K "check_stop"))
  b_check_stop : Binds K (D "check_stop") ["road", "stop"] []
  F_check_day : FunD K "check_day" "check_day" (defArgs s_check_day) (defBody s_check_day) (defScope s_check_day) [] [] (He.ga K "check_day") (D "check_day")
  m_check_day : mg "check_day" = some (.ref (He.ga K "check_day"))
  b_check_day : Binds K (D "check_day") ["road", "home", "start", "stops"] []
  F_Day___init : FunD K "__init__" "Day.__init__" (defArgs s_Day___init) (defBody s_Day___init) (defScope s_Day___init) [] [] (He.ma K (He.ga K "Day") "__init__") (D "Day.__init__")
  b_Day___init : Binds K (D "Day.__init__") ["self", "road", "home", "start", "stops"] []
  F_check_order : FunD K "check_order" "check_order" (defArgs s_check_order) (defBody s_check_order) (defScope s_check_order) [] [] (He.ga K "check_order") (D "check_order")
  m_check_order : mg "check_order" = some (.ref (He.ga K "check_order"))
  b_check_order : Binds K (D "check_order") ["day", "order"] []
  F_visit : FunD K "visit" "visit" (defArgs s_visit) (defBody s_visit) (defScope s_visit) [] [] (He.ga K "visit") (D "visit")
  m_visit : mg "visit" = some (.ref (He.ga K "visit"))
  b_visit : Binds K (D "visit") ["day", "place", "leaves", "number"] []
  F_timetable : FunD K "timetable" "timetable" (defArgs s_timetable) (defBody s_timetable) (defScope s_timetable) [] [] (He.ga K "timetable") (D "timetable")
  m_timetable : mg "timetable" = some (.ref (He.ga K "timetable"))
  b_timetable : Binds K (D "timetable") ["day", "order"] []
  F_ends : FunD K "ends" "ends" (defArgs s_ends) (defBody s_ends) (defScope s_ends) [] [] (He.ga K "ends") (D "ends")
  m_ends : mg "ends" = some (.ref (He.ga K "ends"))
  b_ends : Binds K (D "ends") ["day", "order"] []
  F_law_cell_at : FunD K "_law_cell_at" "_law_cell_at" (defArgs s_law_cell_at) (defBody s_law_cell_at) (defScope s_law_cell_at) [] [] (He.ga K "_law_cell_at") (D "_law_cell_at")
  m_law_cell_at : mg "_law_cell_at" = some (.ref (He.ga K "_law_cell_at"))
  b_law_cell_at : Binds K (D "_law_cell_at") ["_law_script", "_law_k"] []
  F_law_wide : FunD K "_law_wide" "_law_wide" (defArgs s_law_wide) (defBody s_law_wide) (defScope s_law_wide) [] [] (He.ga K "_law_wide") (D "_law_wide")
  m_law_wide : mg "_law_wide" = some (.ref (He.ga K "_law_wide"))
  b_law_wide : Binds K (D "_law_wide") ["_law_cell", "_law_bound"] []
  F_law_whole : FunD K "_law_whole" "_law_whole" (defArgs s_law_whole) (defBody s_law_whole) (defScope s_law_whole) [] [] (He.ga K "_law_whole") (D "_law_whole")
  m_law_whole : mg "_law_whole" = some (.ref (He.ga K "_law_whole"))
  b_law_whole : Binds K (D "_law_whole") ["_law_found"] []
  F_law_road_by : FunD K "_law_road_by" "_law_road_by" (defArgs s_law_road_by) (defBody s_law_road_by) (defScope s_law_road_by) [] [] (He.ga K "_law_road_by") (D "_law_road_by")
  m_law_road_by : mg "_law_road_by" = some (.ref (He.ga K "_law_road_by"))
  b_law_road_by : Binds K (D "_law_road_by") ["_law_cell"] []
  F_law_places : FunD K "_law_places" "_law_places" (defArgs s_law_places) (defBody s_law_places) (defScope s_law_places) [] [] (He.ga K "_law_places") (D "_law_places")
  m_law_places : mg "_law_places" = some (.ref (He.ga K "_law_places"))
  b_law_places : Binds K (D "_law_places") ["_law_road"] []
  F_law_place_by : FunD K "_law_place_by" "_law_place_by" (defArgs s_law_place_by) (defBody s_law_place_by) (defScope s_law_place_by) [] [] (He.ga K "_law_place_by") (D "_law_place_by")
  m_law_place_by : mg "_law_place_by" = some (.ref (He.ga K "_law_place_by"))
  b_law_place_by : Binds K (D "_law_place_by") ["_law_road", "_law_cell"] []
  F_law_apart : FunD K "_law_apart" "_law_apart" (defArgs s_law_apart) (defBody s_law_apart) (defScope s_law_apart) [] [] (He.ga K "_law_apart") (D "_law_apart")
  m_law_apart : mg "_law_apart" = some (.ref (He.ga K "_law_apart"))
  b_law_apart : Binds K (D "_law_apart") ["_law_road", "_law_one", "_law_other"] []
  F_law_start_by : FunD K "_law_start_by" "_law_start_by" (defArgs s_law_start_by) (defBody s_law_start_by) (defScope s_law_start_by) [] [] (He.ga K "_law_start_by") (D "_law_start_by")
  m_law_start_by : mg "_law_start_by" = some (.ref (He.ga K "_law_start_by"))
  b_law_start_by : Binds K (D "_law_start_by") ["_law_road", "_law_cell"] []
  F_law_stop_by : FunD K "_law_stop_by" "_law_stop_by" (defArgs s_law_stop_by) (defBody s_law_stop_by) (defScope s_law_stop_by) [] [] (He.ga K "_law_stop_by") (D "_law_stop_by")
  m_law_stop_by : mg "_law_stop_by" = some (.ref (He.ga K "_law_stop_by"))
  b_law_stop_by : Binds K (D "_law_stop_by") ["_law_road", "_law_start", "_law_script", "_law_k"] []
  F_law_stops_by : FunD K "_law_stops_by" "_law_stops_by" (defArgs s_law_stops_by) (defBody s_law_stops_by) (defScope s_law_stops_by) [] [] (He.ga K "_law_stops_by") (D "_law_stops_by")
  m_law_stops_by : mg "_law_stops_by" = some (.ref (He.ga K "_law_stops_by"))
  b_law_stops_by : Binds K (D "_law_stops_by") ["_law_road", "_law_start", "_law_script", "_law_many"] []
  F_law_order_by : FunD K "_law_order_by" "_law_order_by" (defArgs s_law_order_by) (defBody s_law_order_by) (defScope s_law_order_by) [] [] (He.ga K "_law_order_by") (D "_law_order_by")
  m_law_order_by : mg "_law_order_by" = some (.ref (He.ga K "_law_order_by"))
  b_law_order_by : Binds K (D "_law_order_by") ["_law_script", "_law_many"] []
  F_law_bad : FunD K "_law_bad" "_law_bad" (defArgs s_law_bad) (defBody s_law_bad) (defScope s_law_bad) [] [] (He.ga K "_law_bad") (D "_law_bad")
  m_law_bad : mg "_law_bad" = some (.ref (He.ga K "_law_bad"))
  b_law_bad : Binds K (D "_law_bad") ["_law_order", "_law_many"] []
  F_law_rows : FunD K "_law_rows" "_law_rows" (defArgs s_law_rows) (defBody s_law_rows) (defScope s_law_rows) [] [] (He.ga K "_law_rows") (D "_law_rows")
  m_law_rows : mg "_law_rows" = some (.ref (He.ga K "_law_rows"))
  b_law_rows : Binds K (D "_law_rows") ["_law_road", "_law_home", "_law_start", "_law_stops", "_law_order"] []
  F_law_told : FunD K "_law_told" "_law_told" (defArgs s_law_told) (defBody s_law_told) (defScope s_law_told) [] [] (He.ga K "_law_told") (D "_law_told")
  m_law_told : mg "_law_told" = some (.ref (He.ga K "_law_told"))
  b_law_told : Binds K (D "_law_told") ["_law_day", "_law_order"] []
  F_law_ended : FunD K "_law_ended" "_law_ended" (defArgs s_law_ended) (defBody s_law_ended) (defScope s_law_ended) [] [] (He.ga K "_law_ended") (D "_law_ended")
  m_law_ended : mg "_law_ended" = some (.ref (He.ga K "_law_ended"))
  b_law_ended : Binds K (D "_law_ended") ["_law_day", "_law_order"] []
  F_law_alike : FunD K "_law_alike" "_law_alike" (defArgs s_law_alike) (defBody s_law_alike) (defScope s_law_alike) [] [] (He.ga K "_law_alike") (D "_law_alike")
  m_law_alike : mg "_law_alike" = some (.ref (He.ga K "_law_alike"))
  b_law_alike : Binds K (D "_law_alike") ["_law_found", "_law_due"] []
  F_law_right : FunD K "_law_right" "_law_right" (defArgs s_law_right) (defBody s_law_right) (defScope s_law_right) [] [] (He.ga K "_law_right") (D "_law_right")
  m_law_right : mg "_law_right" = some (.ref (He.ga K "_law_right"))
  b_law_right : Binds K (D "_law_right") ["_law_day", "_law_stops", "_law_order", "_law_handed"] []
  F_law : FunD K "law" "law" (defArgs s_law) (defBody s_law) (defScope s_law) [] [] (He.ga K "law") (D "law")
  m_law : mg "law" = some (.ref (He.ga K "law"))
  b_law : Binds K (D "law") ["_law_script"] []
  m_RouteError : mg "RouteError" = some (.ref (He.ga K "RouteError"))
  x_RouteError : PySem.W.excIn K (He.ga K "RouteError") He.veBase "ValueError.__new__" = true
  kp_RouteError : PySem.W.keepIn K (.ref (He.ga K "RouteError")) = true
  sb_RouteError : PySem.W.subIn K (.ref (He.ga K "RouteError")) (.type "BaseException") = some true
  ty_RouteError : PySem.W.typeIn K (.ref (He.ga K "RouteError")) = some (.type "type")
  m_BadRoad : mg "BadRoad" = some (.ref (He.ga K "BadRoad"))
  x_BadRoad : PySem.W.excIn K (He.ga K "BadRoad") He.veBase "ValueError.__new__" = true
  kp_BadRoad : PySem.W.keepIn K (.ref (He.ga K "BadRoad")) = true
  sb_BadRoad : PySem.W.subIn K (.ref (He.ga K "BadRoad")) (.type "BaseException") = some true
  ty_BadRoad : PySem.W.typeIn K (.ref (He.ga K "BadRoad")) = some (.type "type")
  m_OffRoad : mg "OffRoad" = some (.ref (He.ga K "OffRoad"))
  x_OffRoad : PySem.W.excIn K (He.ga K "OffRoad") He.veBase "ValueError.__new__" = true
  kp_OffRoad : PySem.W.keepIn K (.ref (He.ga K "OffRoad")) = true
  sb_OffRoad : PySem.W.subIn K (.ref (He.ga K "OffRoad")) (.type "BaseException") = some true
  ty_OffRoad : PySem.W.typeIn K (.ref (He.ga K "OffRoad")) = some (.type "type")
  m_BadTime : mg "BadTime" = some (.ref (He.ga K "BadTime"))
  x_BadTime : PySem.W.excIn K (He.ga K "BadTime") He.veBase "ValueError.__new__" = true
  kp_BadTime : PySem.W.keepIn K (.ref (He.ga K "BadTime")) = true
  sb_BadTime : PySem.W.subIn K (.ref (He.ga K "BadTime")) (.type "BaseException") = some true
  ty_BadTime : PySem.W.typeIn K (.ref (He.ga K "BadTime")) = some (.type "type")
  m_TooMany : mg "TooMany" = some (.ref (He.ga K "TooMany"))
  x_TooMany : PySem.W.excIn K (He.ga K "TooMany") He.veBase "ValueError.__new__" = true
  kp_TooMany : PySem.W.keepIn K (.ref (He.ga K "TooMany")) = true
  sb_TooMany : PySem.W.subIn K (.ref (He.ga K "TooMany")) (.type "BaseException") = some true
  ty_TooMany : PySem.W.typeIn K (.ref (He.ga K "TooMany")) = some (.type "type")
  m_BadOrder : mg "BadOrder" = some (.ref (He.ga K "BadOrder"))
  x_BadOrder : PySem.W.excIn K (He.ga K "BadOrder") He.veBase "ValueError.__new__" = true
  kp_BadOrder : PySem.W.keepIn K (.ref (He.ga K "BadOrder")) = true
  sb_BadOrder : PySem.W.subIn K (.ref (He.ga K "BadOrder")) (.type "BaseException") = some true
  ty_BadOrder : PySem.W.typeIn K (.ref (He.ga K "BadOrder")) = some (.type "type")
  m_Missed : mg "Missed" = some (.ref (He.ga K "Missed"))
  x_Missed : PySem.W.excIn K (He.ga K "Missed") He.veBase "ValueError.__new__" = true
  kp_Missed : PySem.W.keepIn K (.ref (He.ga K "Missed")) = true
  sb_Missed : PySem.W.subIn K (.ref (He.ga K "Missed")) (.type "BaseException") = some true
  ty_Missed : PySem.W.typeIn K (.ref (He.ga K "Missed")) = some (.type "type")
  m_NoDay : mg "NoDay" = some (.ref (He.ga K "NoDay"))
  x_NoDay : PySem.W.excIn K (He.ga K "NoDay") He.veBase "ValueError.__new__" = true
  kp_NoDay : PySem.W.keepIn K (.ref (He.ga K "NoDay")) = true
  sb_NoDay : PySem.W.subIn K (.ref (He.ga K "NoDay")) (.type "BaseException") = some true
  ty_NoDay : PySem.W.typeIn K (.ref (He.ga K "NoDay")) = some (.type "type")
  m_Day : mg "Day" = some (.ref (He.ga K "Day"))
  cl_Day : Cls K (He.ga K "Day")
  k_Day : Mk K (He.ga K "Day") (He.ma K (He.ga K "Day") "__init__")
  na_Day_home : NoAttr K (He.ga K "Day") "home"
  na_Day_road : NoAttr K (He.ga K "Day") "road"
  na_Day_start : NoAttr K (He.ga K "Day") "start"
  na_Day_stops : NoAttr K (He.ga K "Day") "stops"
  e_OffRoad_BadOrder : PySem.W.exmOne K (.ref (He.ga K "OffRoad")) (.ref (He.ga K "BadOrder")) = some false
  e_OffRoad_Missed : PySem.W.exmOne K (.ref (He.ga K "OffRoad")) (.ref (He.ga K "Missed")) = some false
  e_OffRoad_RouteError : PySem.W.exmOne K (.ref (He.ga K "OffRoad")) (.ref (He.ga K "RouteError")) = some true
  e_BadTime_BadOrder : PySem.W.exmOne K (.ref (He.ga K "BadTime")) (.ref (He.ga K "BadOrder")) = some false
  e_BadTime_Missed : PySem.W.exmOne K (.ref (He.ga K "BadTime")) (.ref (He.ga K "Missed")) = some false
  e_BadTime_RouteError : PySem.W.exmOne K (.ref (He.ga K "BadTime")) (.ref (He.ga K "RouteError")) = some true
  e_BadRoad_BadOrder : PySem.W.exmOne K (.ref (He.ga K "BadRoad")) (.ref (He.ga K "BadOrder")) = some false
  e_BadRoad_Missed : PySem.W.exmOne K (.ref (He.ga K "BadRoad")) (.ref (He.ga K "Missed")) = some false
  e_BadRoad_RouteError : PySem.W.exmOne K (.ref (He.ga K "BadRoad")) (.ref (He.ga K "RouteError")) = some true
  e_TooMany_BadOrder : PySem.W.exmOne K (.ref (He.ga K "TooMany")) (.ref (He.ga K "BadOrder")) = some false
  e_TooMany_Missed : PySem.W.exmOne K (.ref (He.ga K "TooMany")) (.ref (He.ga K "Missed")) = some false
  e_TooMany_RouteError : PySem.W.exmOne K (.ref (He.ga K "TooMany")) (.ref (He.ga K "RouteError")) = some true
  e_BadOrder_BadOrder : PySem.W.exmOne K (.ref (He.ga K "BadOrder")) (.ref (He.ga K "BadOrder")) = some true
  e_BadOrder_Missed : PySem.W.exmOne K (.ref (He.ga K "BadOrder")) (.ref (He.ga K "Missed")) = some false
  e_BadOrder_RouteError : PySem.W.exmOne K (.ref (He.ga K "BadOrder")) (.ref (He.ga K "RouteError")) = some true
  e_Missed_BadOrder : PySem.W.exmOne K (.ref (He.ga K "Missed")) (.ref (He.ga K "BadOrder")) = some false
  e_Missed_Missed : PySem.W.exmOne K (.ref (He.ga K "Missed")) (.ref (He.ga K "Missed")) = some true
  e_Missed_RouteError : PySem.W.exmOne K (.ref (He.ga K "Missed")) (.ref (He.ga K "RouteError")) = some true
  c_LINE : ∃ u, mg "LINE" = some u ∧ RelV (.str "line") u
  c_RING : ∃ u, mg "RING" = some u ∧ RelV (.str "ring") u
  c_LONGEST : ∃ u, mg "LONGEST" = some u ∧ RelV (.int 1000000000) u
  c_LATEST : ∃ u, mg "LATEST" = some u ∧ RelV (.int 1000000000000) u
  c_MOST_STOPS : ∃ u, mg "MOST_STOPS" = some u ∧ RelV (.int 7) u
  m_abs : mg "abs" = none
  m_max : mg "max" = none
  m_min : mg "min" = none
  m_list : mg "list" = none
  m_range : mg "range" = none
  m_len : mg "len" = none
  m_isinstance : mg "isinstance" = none
  m_int : mg "int" = none
  m_set : mg "set" = none
  m_bool : mg "bool" = none
  m_tuple : mg "tuple" = none
  m_ValueError : mg "ValueError" = none
  ec_OffRoad : ExcC K (He.ga K "OffRoad")
  ec_BadTime : ExcC K (He.ga K "BadTime")
  ec_BadRoad : ExcC K (He.ga K "BadRoad")
  ec_TooMany : ExcC K (He.ga K "TooMany")
  ec_BadOrder : ExcC K (He.ga K "BadOrder")
  ec_Missed : ExcC K (He.ga K "Missed")
  is_OffRoad_BadRoad : PySem.W.kitOne K (.ref (He.ga K "OffRoad")) (.ref (He.ga K "BadRoad")) = some false
  is_OffRoad_OffRoad : PySem.W.kitOne K (.ref (He.ga K "OffRoad")) (.ref (He.ga K "OffRoad")) = some true
  is_OffRoad_BadTime : PySem.W.kitOne K (.ref (He.ga K "OffRoad")) (.ref (He.ga K "BadTime")) = some false
  is_OffRoad_TooMany : PySem.W.kitOne K (.ref (He.ga K "OffRoad")) (.ref (He.ga K "TooMany")) = some false
  is_OffRoad_NoDay : PySem.W.kitOne K (.ref (He.ga K "OffRoad")) (.ref (He.ga K "NoDay")) = some false
  is_OffRoad_BadOrder : PySem.W.kitOne K (.ref (He.ga K "OffRoad")) (.ref (He.ga K "BadOrder")) = some false
  is_OffRoad_Missed : PySem.W.kitOne K (.ref (He.ga K "OffRoad")) (.ref (He.ga K "Missed")) = some false
  is_OffRoad_ValueError : PySem.W.kitOne K (.ref (He.ga K "OffRoad")) (.type "ValueError") = some true
  is_BadTime_BadRoad : PySem.W.kitOne K (.ref (He.ga K "BadTime")) (.ref (He.ga K "BadRoad")) = some false
  is_BadTime_OffRoad : PySem.W.kitOne K (.ref (He.ga K "BadTime")) (.ref (He.ga K "OffRoad")) = some false
  is_BadTime_BadTime : PySem.W.kitOne K (.ref (He.ga K "BadTime")) (.ref (He.ga K "BadTime")) = some true
  is_BadTime_TooMany : PySem.W.kitOne K (.ref (He.ga K "BadTime")) (.ref (He.ga K "TooMany")) = some false
  is_BadTime_NoDay : PySem.W.kitOne K (.ref (He.ga K "BadTime")) (.ref (He.ga K "NoDay")) = some false
  is_BadTime_BadOrder : PySem.W.kitOne K (.ref (He.ga K "BadTime")) (.ref (He.ga K "BadOrder")) = some false
  is_BadTime_Missed : PySem.W.kitOne K (.ref (He.ga K "BadTime")) (.ref (He.ga K "Missed")) = some false
  is_BadTime_ValueError : PySem.W.kitOne K (.ref (He.ga K "BadTime")) (.type "ValueError") = some true
  is_BadRoad_BadRoad : PySem.W.kitOne K (.ref (He.ga K "BadRoad")) (.ref (He.ga K "BadRoad")) = some true
  is_BadRoad_OffRoad : PySem.W.kitOne K (.ref (He.ga K "BadRoad")) (.ref (He.ga K "OffRoad")) = some false
  is_BadRoad_BadTime : PySem.W.kitOne K (.ref (He.ga K "BadRoad")) (.ref (He.ga K "BadTime")) = some false
  is_BadRoad_TooMany : PySem.W.kitOne K (.ref (He.ga K "BadRoad")) (.ref (He.ga K "TooMany")) = some false
  is_BadRoad_NoDay : PySem.W.kitOne K (.ref (He.ga K "BadRoad")) (.ref (He.ga K "NoDay")) = some false
  is_BadRoad_BadOrder : PySem.W.kitOne K (.ref (He.ga K "BadRoad")) (.ref (He.ga K "BadOrder")) = some false
  is_BadRoad_Missed : PySem.W.kitOne K (.ref (He.ga K "BadRoad")) (.ref (He.ga K "Missed")) = some false
  is_BadRoad_ValueError : PySem.W.kitOne K (.ref (He.ga K "BadRoad")) (.type "ValueError") = some true
  is_TooMany_BadRoad : PySem.W.kitOne K (.ref (He.ga K "TooMany")) (.ref (He.ga K "BadRoad")) = some false
  is_TooMany_OffRoad : PySem.W.kitOne K (.ref (He.ga K "TooMany")) (.ref (He.ga K "OffRoad")) = some false
  is_TooMany_BadTime : PySem.W.kitOne K (.ref (He.ga K "TooMany")) (.ref (He.ga K "BadTime")) = some false
  is_TooMany_TooMany : PySem.W.kitOne K (.ref (He.ga K "TooMany")) (.ref (He.ga K "TooMany")) = some true
  is_TooMany_NoDay : PySem.W.kitOne K (.ref (He.ga K "TooMany")) (.ref (He.ga K "NoDay")) = some false
  is_TooMany_BadOrder : PySem.W.kitOne K (.ref (He.ga K "TooMany")) (.ref (He.ga K "BadOrder")) = some false
  is_TooMany_Missed : PySem.W.kitOne K (.ref (He.ga K "TooMany")) (.ref (He.ga K "Missed")) = some false
  is_TooMany_ValueError : PySem.W.kitOne K (.ref (He.ga K "TooMany")) (.type "ValueError") = some true
  is_BadOrder_BadRoad : PySem.W.kitOne K (.ref (He.ga K "BadOrder")) (.ref (He.ga K "BadRoad")) = some false
  is_BadOrder_OffRoad : PySem.W.kitOne K (.ref (He.ga K "BadOrder")) (.ref (He.ga K "OffRoad")) = some false
  is_BadOrder_BadTime : PySem.W.kitOne K (.ref (He.ga K "BadOrder")) (.ref (He.ga K "BadTime")) = some false
  is_BadOrder_TooMany : PySem.W.kitOne K (.ref (He.ga K "BadOrder")) (.ref (He.ga K "TooMany")) = some false
  is_BadOrder_NoDay : PySem.W.kitOne K (.ref (He.ga K "BadOrder")) (.ref (He.ga K "NoDay")) = some false
  is_BadOrder_BadOrder : PySem.W.kitOne K (.ref (He.ga K "BadOrder")) (.ref (He.ga K "BadOrder")) = some true
  is_BadOrder_Missed : PySem.W.kitOne K (.ref (He.ga K "BadOrder")) (.ref (He.ga K "Missed")) = some false
  is_BadOrder_ValueError : PySem.W.kitOne K (.ref (He.ga K "BadOrder")) (.type "ValueError") = some true
  is_Missed_BadRoad : PySem.W.kitOne K (.ref (He.ga K "Missed")) (.ref (He.ga K "BadRoad")) = some false
  is_Missed_OffRoad : PySem.W.kitOne K (.ref (He.ga K "Missed")) (.ref (He.ga K "OffRoad")) = some false
  is_Missed_BadTime : PySem.W.kitOne K (.ref (He.ga K "Missed")) (.ref (He.ga K "BadTime")) = some false
  is_Missed_TooMany : PySem.W.kitOne K (.ref (He.ga K "Missed")) (.ref (He.ga K "TooMany")) = some false
  is_Missed_NoDay : PySem.W.kitOne K (.ref (He.ga K "Missed")) (.ref (He.ga K "NoDay")) = some false
  is_Missed_BadOrder : PySem.W.kitOne K (.ref (He.ga K "Missed")) (.ref (He.ga K "BadOrder")) = some false
  is_Missed_Missed : PySem.W.kitOne K (.ref (He.ga K "Missed")) (.ref (He.ga K "Missed")) = some true
  is_Missed_ValueError : PySem.W.kitOne K (.ref (He.ga K "Missed")) (.type "ValueError") = some true
section
variable {P : Program} {w : World} {K : PySem.W.Frag} {mg : Str → Option Value} {base : Heap} {D : Str → FuncData}
/-! #### is_road -/
def sp_is_road (K : PySem.W.Frag) : Sp := fun vs H Q _ => ∃ (r : Addr) (w : Str) (len : Int), vs = [.ref r] ∧ SqT K H r [.str w, .int len] ∧ ∀ H', Ex H H' → Q (.bl (decide (isRoad w len))) H'
set_option maxHeartbeats 4000000 in
theorem ok_is_road (T : Txt K mg D) : FnOk P w K mg base CX0 1 (He.ga K "is_road") (D "is_road") ["road"] (sp_is_road K) := by
  refine T.F_is_road.ok sc_is_road (fun vs H Q E h => ?_) (fun cdv A outer s H vs Q E hr h => ?_)
  · obtain ⟨_, _, _, rfl, _⟩ := h
    rfl
  obtain ⟨r, w', len, rfl, hS, q⟩ := h
  refine ⟨_, PSs.nox (pss_cons (ps_asg (pv 0) (pg_tup rfl (pgs_cons (pg_name (i := 1) sc_is_road.nd rfl (Or.inl rfl)) (pgs_cons (pg_name (i := 2) sc_is_road.nd rfl (Or.inl rfl)) pgs_nil))))
    (pss_one (ps_ret (pe_and (pe_cmpR op_in_seq (pv 1) (pe_tup (pa_cons (pe_globE rfl T.c_LINE) (pa_cons (pe_globE rfl T.c_RING) pa_nil))) rfl) (pe_one (pe_chain op_le op_le pe_int (pv 2) (pe_globE rfl T.c_LONGEST))))))), ?_⟩
  refine ⟨_, rfl, r, _, rfl, hS, rfl, ?_⟩
  walk_at "go"
  intro p hp
  refine ⟨p, _, rfl, Or.inr (SqT.of upd_same), rfl, rfl, _, rfl, ?_⟩
  have e := in_roads w'
  refine iteB (fun c => ?_) (fun c => ?_)
  · have c1 : w' = "line" ∨ w' = "ring" := of_decide_eq_true (e.symm.trans c)
    walk_at "go"
    refine iteB (fun c => ?_) (fun c => ?_)
    · have c2 := of_decide_eq_true c
      walk_at "go"
      have q' := q (upd H p (.tup [.str "line", .str "ring"])) (Evl.Ex.new hp)
      rw [dec_eq (r := len ≤ 1000000000) (by unfold isRoad; exact ⟨fun z => z.2.2, fun z => ⟨c1, c2, z⟩⟩)] at q'
      exact q'
    · have c2 := of_decide_eq_false c
      have q' := q (upd H p (.tup [.str "line", .str "ring"])) (Evl.Ex.new hp)
      rw [decide_eq_false (fun z => c2 z.2.1)] at q'
      exact q'
  · have c1 : ¬ (w' = "line" ∨ w' = "ring") := of_decide_eq_false (e.symm.trans c)
    have q' := q (upd H p (.tup [.str "line", .str "ring"])) (Evl.Ex.new hp)
    rw [decide_eq_false (fun z => c1 z.1)] at q'
    exact q'
/-! #### has_place -/
def sp_has_place (K : PySem.W.Frag) : Sp := fun vs H Q _ => ∃ (r : Addr) (ring : Bool) (len p : Int), vs = [.ref r, .int p] ∧ SqT K H r (roadV ring len) ∧ Q (.bl (decide (0 ≤ p ∧ p < placesOf ring len))) H
set_option maxHeartbeats 4000000 in
theorem ok_has_place (T : Txt K mg D) : FnOk P w K mg base CX0 1 (He.ga K "has_place") (D "has_place") ["road", "place"] (sp_has_place K) := by
  refine T.F_has_place.ok sc_has_place (fun vs H Q E h => ?_) (fun cdv A outer s H vs Q E hr h => ?_)
  · obtain ⟨_, _, _, _, rfl, _⟩ := h
    rfl
  obtain ⟨r, ring, len, p, rfl, hS, q⟩ := h
  refine ⟨_, PSs.nox (pss_cons (ps_asg (pv 0) (pg_tup rfl (pgs_cons (pg_name (i := 2) sc_has_place.nd rfl (Or.inl rfl)) (pgs_cons (pg_name (i := 3) sc_has_place.nd rfl (Or.inl rfl)) pgs_nil))))
    (pss_cons (ps_if (pt_cmpR op_eq (pv 2) (pe_globE rfl T.c_LINE) (nomark _)) (pss_one (ps_ret (pe_chain op_le op_le pe_int (pv 1) (pv 3)))) pss_nil)
    (pss_one (ps_ret (pe_chain op_le op_lt pe_int (pv 1) (pv 3)))))), ?_⟩
  refine ⟨_, rfl, r, _, rfl, hS, rfl, ?_⟩
  walk_at "go"
  refine iteB (fun c => ?_) (fun c => ?_)
  · have hr := (word_line ring).mp (of_decide_eq_true c)
    subst hr
    have hp : placesOf false len = len + 1 := rfl
    walk_at "go"
    refine iteB (fun c2 => ?_) (fun c2 => ?_)
    · have c3 := of_decide_eq_true c2
      walk_at "go"
      rw [dec_eq (r := p ≤ len) (by rw [hp]; omega)] at q
      exact q
    · have c3 := of_decide_eq_false c2
      rw [decide_eq_false (by omega)] at q
      exact q
  · have hr : ring = true := by
      cases ring with
      | true => rfl
      | false => exact absurd ((word_line false).mpr rfl) (of_decide_eq_false c)
    subst hr
    have hp : placesOf true len = len := rfl
    walk_at "go"
    refine iteB (fun c2 => ?_) (fun c2 => ?_)
    · have c3 := of_decide_eq_true c2
      walk_at "go"
      rw [dec_eq (r := p < len) (by rw [hp]; omega)] at q
      exact q
    · have c3 := of_decide_eq_false c2
      rw [decide_eq_false (by omega)] at q
      exact q
/-! #### way -/
def sp_way (K : PySem.W.Frag) : Sp := fun vs H Q _ => ∃ (r : Addr) (ring : Bool) (len one other : Int), vs = [.ref r, .int one, .int other] ∧ SqT K H r (roadV ring len) ∧ 0 < len ∧ Q (.int (wayOf ring len one other)) H
set_option maxHeartbeats 4000000 in
theorem ok_way (T : Txt K mg D) : FnOk P w K mg base CX0 1 (He.ga K "way") (D "way") ["road", "one", "other"] (sp_way K) := by
  refine T.F_way.ok sc_way (fun vs H Q E h => ?_) (fun cdv A outer s H vs Q E hr h => ?_)
  · obtain ⟨_, _, _, _, _, rfl, _⟩ := h
    rfl
  obtain ⟨r, ring, len, one, other, rfl, hS, hl, q⟩ := h
  refine ⟨_, PSs.nox (pss_cons (ps_asg (pv 0) (pg_tup rfl (pgs_cons (pg_name (i := 3) sc_way.nd rfl (Or.inl rfl)) (pgs_cons (pg_name (i := 4) sc_way.nd rfl (Or.inl rfl)) pgs_nil))))
    (pss_cons (ps_if (pt_cmpR op_eq (pv 3) (pe_globE rfl T.c_LINE) (nomark _)) (pss_one (ps_ret (pe_op op_sub (pv 2) (pv 1)))) pss_nil)
    (pss_cons (ps_set (i := 5) sc_way.nd rfl (Or.inl rfl) (pe_op op_mod (pe_op op_sub (pv 2) (pv 1)) (pv 4)))
    (pss_cons (ps_if (pt_cmpR op_le (pe_op op_mul pe_int (pv 5)) (pv 4) (nomark _)) (pss_one (ps_ret (pv 5))) pss_nil)
    (pss_one (ps_ret (pe_op op_sub (pv 5) (pv 4)))))))), ?_⟩
  refine ⟨_, rfl, r, _, rfl, hS, rfl, ?_⟩
  walk_at "go"
  refine iteB (fun c => ?_) (fun c => ?_)
  · have hr := (word_line ring).mp (of_decide_eq_true c)
    subst hr
    walk_at "go"
    exact q
  · have hr : ring = true := by
      cases ring with
      | true => rfl
      | false => exact absurd ((word_line false).mpr rfl) (of_decide_eq_false c)
    subst hr
    walk_at "go"
    have q' : Q (.int (if 2 * ((other - one) % len) ≤ len then (other - one) % len else (other - one) % len - len)) H := q
    refine iteB (fun c => ?_) (fun c => ?_)
    · walk_at "go"
      rw [if_pos (of_decide_eq_true c)] at q'
      exact q'
    · walk_at "go"
      rw [if_neg (of_decide_eq_false c)] at q'
      exact q'
/-! #### is_time -/
def sp_is_time (K : PySem.W.Frag) : Sp := fun vs H Q _ => ∃ (n : Int), vs = [.int n] ∧ Q (.bl (decide (isTime n))) H
set_option maxHeartbeats 4000000 in
theorem ok_is_time (T : Txt K mg D) : FnOk P w K mg base CX0 1 (He.ga K "is_time") (D "is_time") ["number"] (sp_is_time K) := by
  refine T.F_is_time.ok sc_is_time (fun vs H Q E h => ?_) (fun cdv A outer s H vs Q E hr h => ?_)
  · obtain ⟨_, rfl, _⟩ := h
    rfl
  obtain ⟨n, rfl, q⟩ := h
  refine ⟨_, PSs.nox (pss_one (ps_ret (pe_chain op_le op_le pe_int (pv 0) (pe_globE rfl T.c_LATEST)))), ?_⟩
  walk_at "go"
  refine iteB (fun c => ?_) (fun c => ?_)
  · have c1 := of_decide_eq_true c
    walk_at "go"
    rw [dec_eq (r := n ≤ 1000000000000) (by unfold isTime; omega)] at q
    exact q
  · have c1 := of_decide_eq_false c
    rw [decide_eq_false (by unfold isTime; omega)] at q
    exact q
/-! #### check_order -/
def sp_check_order (K : PySem.W.Frag) : Sp := fun vs H Q E => ∃ (d o r l : Addr) (w : Str) (len home start : Int) (ps : List Addr) (sts : List Stp) (ns : List Int), vs = [.ref d, .ref o] ∧ DayAt K H d r l w len home start ps sts ∧ SqL K H o (ns.map V.int) ∧ ns.length ≤ 4000 ∧
  (ordOk ns sts.length → Q .non H) ∧ (¬ ordOk ns sts.length → E (.ref (He.ga K "BadOrder")) none H)
set_option maxHeartbeats 4000000 in
theorem ok_check_order (T : Txt K mg D) : FnOk P w K mg base (L2.CX P w) 1 (He.ga K "check_order") (D "check_order") ["day", "order"] (sp_check_order K) := by
  refine T.F_check_order.ok sc_check_order (fun vs H Q E h => ?_) (fun cdv A outer s H vs Q E hr h => ?_)
  · obtain ⟨_, _, _, _, _, _, _, _, _, _, _, rfl, _⟩ := h
    rfl
  obtain ⟨d, o, r, l, w', len, home, start, ps, sts, ns, rfl, hD, hO, hz, q1, q2⟩ := h
  refine ⟨_, (pss_cons (ps_for (passes_of rfl) rfl (pi_list (pv 1)) (pg_name (i := 2) sc_check_order.nd rfl (Or.inl rfl))
      (pss_one (ps_if (pt_not (pt_chain op_le op_lt pe_int (pv 2) (pe_callB call_len_seq rfl T.m_len PySem.boot_len (pa_cons (pe_fld (pv 0) rfl) pa_nil)))) (pss_one (ps_raise rfl (takes_of rfl rfl rfl rfl) (pmk_own PySem.F.excBase_ValueError T.x_BadOrder T.m_BadOrder T.kp_BadOrder (raises_own T.sb_BadOrder T.ty_BadOrder) (by exact rfl)))) pss_nil)))
    (pss_one (ps_if (pt_cmpR op_lt (pe_lenset rfl T.m_len rfl T.m_set (pv 1) rfl) (pe_callB call_len_seq rfl T.m_len PySem.boot_len (pa_cons (pv 1) pa_nil)) (nomark _)) (pss_one (ps_raise rfl (takes_of rfl rfl rfl rfl) (pmk_own PySem.F.excBase_ValueError T.x_BadOrder T.m_BadOrder T.kp_BadOrder (raises_own T.sb_BadOrder T.ty_BadOrder) (by exact rfl)))) pss_nil))), ?_⟩
  obtain ⟨⟨dx, k1⟩, k2, k3, k4⟩ := id hD
  have hlen : (ps.map V.ref).length = sts.length := by rw [List.length_map]; exact k4.len
  walk_at "go"
  refine ⟨⟨_, hO⟩, for_list (K := K) (a := o) (xs := ns.map V.int) (fun i σ H' => (∃ x, σ = [some (.ref d), some (.ref o), x]) ∧ H' = H ∧ ∀ y ∈ ns.take i, 0 ≤ y ∧ y < sts.length) ⟨⟨_, rfl⟩, rfl, (by simp)⟩ (fun i σ H' _ p => by rw [p.2.1]; exact hO) ?_ ?_⟩
  · rintro i y σ H' hi ⟨⟨x, rfl⟩, rfl, p⟩
    obtain ⟨n, hn, rfl⟩ := map_int_get hi
    have nmem : n ∈ ns := List.mem_of_getElem? hn
    walk_at "go"
    refine iteB (fun c => ?_) (fun c => ?_)
    · have c1 := of_decide_eq_true c
      walk_at "go"
      refine ⟨d, _, dx, _, _, rfl, k1, T.cl_Day, T.na_Day_stops, rfl, ?_⟩
      walk_at "go"
      refine iteB (fun c2 => ?_) (fun c2 => ?_)
      · refine q2 fun z => ?_
        have c3 := nndec c2
        have c4 := (z.1 n nmem).2
        omega
      · have c3 := ndec c2
        refine ⟨⟨_, rfl⟩, rfl, fun y hy => ?_⟩
        rw [List.take_succ, hn] at hy
        rcases List.mem_append.mp hy with hy | hy
        · exact p y hy
        · have e : y = n := by simpa using hy
          rw [e]
          exact ⟨c1, by omega⟩
    · walk_at "go"
      exact iteTb rfl (q2 fun z => of_decide_eq_false c (z.1 n nmem).1)
  rintro σ H' ⟨⟨x, rfl⟩, rfl, p⟩
  rw [List.length_map, List.take_length] at p
  walk_at "go"
  intro m m1 m2
  have hl : (ns.map V.int).length = ns.length := List.length_map _
  walk_at "go"
  refine iteB (fun c => ?_) (fun c => ?_)
  · refine q2 fun z => ?_
    have c1 := of_decide_eq_true c
    have c2 := m1 z.2
    omega
  · refine q1 ⟨p, ?_⟩
    have c1 := of_decide_eq_false c
    refine Decidable.byContradiction fun z => ?_
    have c2 := m2 z
    omega
/-! #### _law_cell_at -/
def sp_law_cell_at (K : PySem.W.Frag) : Sp := fun vs H Q _ => ∃ (a : Addr) (ns : List Int) (k : Int), vs = [.ref a, .int k] ∧ SqL K H a (ns.map V.int) ∧ ns.length ≤ 63 ∧ ∀ v, Q (.int v) H
set_option maxHeartbeats 4000000 in
theorem ok_law_cell_at (T : Txt K mg D) : FnOk P w K mg base CX0 1 (He.ga K "_law_cell_at") (D "_law_cell_at") ["_law_script", "_law_k"] (sp_law_cell_at K) := by
  refine T.F_law_cell_at.ok sc_law_cell_at (fun vs H Q E h => ?_) (fun cdv A outer s H vs Q E hr h => ?_)
  · obtain ⟨_, _, _, rfl, _⟩ := h
    rfl
  obtain ⟨a, ns, k, rfl, hS, hn, q⟩ := h
  refine ⟨_, PSs.nox (pss_cons (ps_if (pt_cmpR op_eq (pe_callB call_len_seq rfl T.m_len PySem.boot_len (pa_cons (pv 0) pa_nil)) pe_int (nomark _)) (pss_one (ps_ret (pv 1))) pss_nil)
    (pss_one (ps_ret (pe_op op_add (pe_ix ix_list (pv 0) (pe_op op_mod (pv 1) (pe_callB call_len_seq rfl T.m_len PySem.boot_len (pa_cons (pv 0) pa_nil))) (fun _ _ => rfl)) (pe_op op_mul pe_int (pe_op op_fdiv (pv 1) (pe_callB call_len_seq rfl T.m_len PySem.boot_len (pa_cons (pv 0) pa_nil)))))))), ?_⟩
  have hl : (ns.map V.int).length = ns.length := List.length_map _
  walk_at "go"
  refine iteB (fun c => ?_) (fun c => ?_)
  · walk_at "go"
    exact q _
  · have c' : ¬ (((ns.map V.int).length : Nat) : Int) = 0 := fun z => of_decide_eq_false c (congrArg V.int z)
    have hp : (0 : Int) < (((ns.map V.int).length : Nat) : Int) := by omega
    have hj : k % (((ns.map V.int).length : Nat) : Int) < (((ns.map V.int).length : Nat) : Int) := Int.emod_lt_of_pos _ hp
    have hj0 : 0 ≤ k % (((ns.map V.int).length : Nat) : Int) := Int.emod_nonneg _ c'
    obtain ⟨v, hv, hv2⟩ := atI_lt hj0 hj
    obtain ⟨z, rfl⟩ : ∃ z, v = V.int z := by
      rw [List.getElem?_map] at hv2
      cases e : ns[(k % (((ns.map V.int).length : Nat) : Int)).toNat]? with
      | none => rw [e] at hv2; cases hv2
      | some z => rw [e] at hv2; exact ⟨z, (Option.some.inj hv2).symm⟩
    walk_at "go"
    exact q _
/-! #### _law_wide -/
def sp_law_wide (K : PySem.W.Frag) : Sp := fun vs H Q _ => ∃ (c b : Int), vs = [.int c, .int b] ∧ 0 < b ∧ ∀ v, 0 ≤ v → v < b → Q (.int v) H
set_option maxHeartbeats 4000000 in
theorem ok_law_wide (T : Txt K mg D) : FnOk P w K mg base CX0 1 (He.ga K "_law_wide") (D "_law_wide") ["_law_cell", "_law_bound"] (sp_law_wide K) := by
  refine T.F_law_wide.ok sc_law_wide (fun vs H Q E h => ?_) (fun cdv A outer s H vs Q E hr h => ?_)
  · obtain ⟨_, _, rfl, _⟩ := h
    rfl
  obtain ⟨c, b, rfl, hb, q⟩ := h
  refine ⟨_, PSs.nox (pss_one (ps_ret (pe_op op_mod (pe_op op_mod (pe_op op_mul (pv 0) pe_int) pe_int) (pv 1)))), ?_⟩
  walk_at "go"
  exact q _ (Int.emod_nonneg _ (by omega)) (Int.emod_lt_of_pos _ hb)
/-! #### _law_whole -/
def sp_law_whole (K : PySem.W.Frag) : Sp := fun vs H Q _ => ∃ (x : V), vs = [x] ∧ ((∃ i, x = .int i ∧ Q (.bl true) H) ∨ (x = .non ∧ Q (.bl false) H) ∨ (∃ b, x = .bl b ∧ Q (.bl false) H) ∨ (∃ b, x = .str b ∧ Q (.bl false) H))
set_option maxHeartbeats 4000000 in
theorem ok_law_whole (T : Txt K mg D) : FnOk P w K mg base CX0 1 (He.ga K "_law_whole") (D "_law_whole") ["_law_found"] (sp_law_whole K) := by
  refine T.F_law_whole.ok sc_law_whole (fun vs H Q E h => ?_) (fun cdv A outer s H vs Q E hr h => ?_)
  · obtain ⟨_, rfl, _⟩ := h
    rfl
  obtain ⟨x, rfl, q⟩ := h
  refine ⟨_, PSs.nox (pss_one (ps_ret (pe_and (pe_callB call_isi rfl T.m_isinstance (by decide +kernel) (pa_cons (pv 0) (pa_cons (pe_bltn (v := V.ty "int") (u := Value.type "int") rfl T.m_int (by decide +kernel) rfl) pa_nil))) (pe_one (pe_not (pe_callB call_isi rfl T.m_isinstance (by decide +kernel) (pa_cons (pv 0) (pa_cons (pe_bltn (v := V.ty "bool") (u := Value.type "bool") rfl T.m_bool (by decide +kernel) rfl) pa_nil)))))))), ?_⟩
  walk_at "go"
  rcases q with ⟨i, rfl, q⟩ | ⟨rfl, q⟩ | ⟨b, rfl, q⟩ | ⟨b, rfl, q⟩
  · refine ⟨_, _, _, _, true, rfl, .ty "int", .base (.int _), kit_ty (by decide +kernel), true, rfl, iteT ?_⟩
    walk_at "go"
    refine ⟨_, _, _, _, false, rfl, .ty "bool", .base (.int _), kit_ty (by decide +kernel), false, rfl, q⟩
  · exact ⟨_, _, _, _, false, rfl, .ty "int", .base .non, kit_ty (by decide +kernel), false, rfl, iteF q⟩
  · refine ⟨_, _, _, _, true, rfl, .ty "int", .base (.bl _), kit_ty (by decide +kernel), true, rfl, iteT ?_⟩
    walk_at "go"
    refine ⟨_, _, _, _, true, rfl, .ty "bool", .base (.bl _), kit_ty (by decide +kernel), true, rfl, q⟩
  · exact ⟨_, _, _, _, false, rfl, .ty "int", .base (.str _), kit_ty (by decide +kernel), false, rfl, iteF q⟩
/-! #### _law_places -/
def sp_law_places (K : PySem.W.Frag) : Sp := fun vs H Q _ => ∃ (r : Addr) (ring : Bool) (len : Int), vs = [.ref r] ∧ SqT K H r (roadV ring len) ∧ Q (.int (placesOf ring len)) H
set_option maxHeartbeats 4000000 in
theorem ok_law_places (T : Txt K mg D) : FnOk P w K mg base CX0 1 (He.ga K "_law_places") (D "_law_places") ["_law_road"] (sp_law_places K) := by
  refine T.F_law_places.ok sc_law_places (fun vs H Q E h => ?_) (fun cdv A outer s H vs Q E hr h => ?_)
  · obtain ⟨_, _, _, rfl, _⟩ := h
    rfl
  obtain ⟨r, ring, len, rfl, hS, q⟩ := h
  refine ⟨_, PSs.nox (pss_cons (ps_if (pt_cmpR op_eq (pe_ix ix_tup (pv 0) pe_int (fun _ _ => rfl)) pe_str (nomark _)) (pss_one (ps_ret (pe_op op_add (pe_ix ix_tup (pv 0) pe_int (fun _ _ => rfl)) pe_int))) pss_nil)
    (pss_one (ps_ret (pe_ix ix_tup (pv 0) pe_int (fun _ _ => rfl))))), ?_⟩
  have a0 : atI (roadV ring len) 0 = some (.str (wordOf ring)) := rfl
  have a1 : atI (roadV ring len) 1 = some (.int len) := rfl
  walk_at "go"
  refine iteB (fun c => ?_) (fun c => ?_)
  · have hr := (word_line ring).mp (of_decide_eq_true c)
    subst hr
    walk_at "go"
    exact q
  · have hr : ring = true := by
      cases ring with
      | true => rfl
      | false => exact absurd ((word_line false).mpr rfl) (of_decide_eq_false c)
    subst hr
    walk_at "go"
    exact q
/-! #### _law_apart -/
def lawApart (ring : Bool) (len a b : Int) : Int := if ring = true then (if len - (if a - b < 0 then -(a - b) else a - b) < (if a - b < 0 then -(a - b) else a - b) then len - (if a - b < 0 then -(a - b) else a - b) else (if a - b < 0 then -(a - b) else a - b)) else (if a - b < 0 then -(a - b) else a - b)
theorem lawApart_is {ring : Bool} {len a b : Int} (hn : 0 < len) (a0 : onRoad ring len a) (b0 : onRoad ring len b) : lawApart ring len a b = apartOf ring len a b := by
  obtain ⟨a0, a1⟩ := a0
  obtain ⟨b0, b1⟩ := b0
  unfold lawApart apartOf wayOf
  cases ring with
  | false =>
    simp only [Bool.false_eq_true, if_false]
    split <;> split <;> omega
  | true =>
    have a1' : a < len := a1
    have b1' : b < len := b1
    have e : (b - a) % len = if a ≤ b then b - a else b - a + len := by
      split
      · exact Int.emod_eq_of_lt (by omega) (by omega)
      · rw [← Int.add_emod_right]
        exact Int.emod_eq_of_lt (by omega) (by omega)
    simp only [if_true]
    rw [e]
    split <;> split <;> split <;> (try split) <;> (try split) <;> omega
def sp_law_apart (K : PySem.W.Frag) : Sp := fun vs H Q _ => ∃ (r : Addr) (ring : Bool) (len one other : Int), vs = [.ref r, .int one, .int other] ∧ SqT K H r (roadV ring len) ∧ Q (.int (lawApart ring len one other)) H
set_option maxHeartbeats 4000000 in
theorem ok_law_apart (T : Txt K mg D) : FnOk P w K mg base CX0 1 (He.ga K "_law_apart") (D "_law_apart") ["_law_road", "_law_one", "_law_other"] (sp_law_apart K) := by
  refine T.F_law_apart.ok sc_law_apart (fun vs H Q E h => ?_) (fun cdv A outer s H vs Q E hr h => ?_)
  · obtain ⟨_, _, _, _, _, rfl, _⟩ := h
    rfl
  obtain ⟨r, ring, len, one, other, rfl, hS, q⟩ := h
  refine ⟨_, PSs.nox (pss_cons (ps_set (i := 3) sc_law_apart.nd rfl (Or.inl rfl) (pe_callB call_abs rfl T.m_abs (by decide +kernel) (pa_cons (pe_op op_sub (pv 1) (pv 2)) pa_nil)))
    (pss_cons (ps_if (pt_cmpR op_eq (pe_ix ix_tup (pv 0) pe_int (fun _ _ => rfl)) pe_str (nomark _)) (pss_one (ps_ret (pv 3))) pss_nil)
    (pss_one (ps_ret (pe_callB (call_min2 rfl) rfl T.m_min (by decide +kernel) (pa_cons (pv 3) (pa_cons (pe_op op_sub (pe_ix ix_tup (pv 0) pe_int (fun _ _ => rfl)) (pv 3)) pa_nil))))))), ?_⟩
  have a0 : atI (roadV ring len) 0 = some (.str (wordOf ring)) := rfl
  have a1 : atI (roadV ring len) 1 = some (.int len) := rfl
  walk_at "go"
  refine iteB (fun c => ?_) (fun c => ?_)
  · have hr := (word_line ring).mp (of_decide_eq_true c)
    subst hr
    walk_at "go"
    exact q
  · have hr : ring = true := by
      cases ring with
      | true => rfl
      | false => exact absurd ((word_line false).mpr rfl) (of_decide_eq_false c)
    subst hr
    walk_at "go"
    exact q
/-! #### _law_bad -/
def sp_law_bad (K : PySem.W.Frag) : Sp := fun vs H Q _ => ∃ (o : Addr) (many : Nat) (ns : List Int), vs = [.ref o, .int many] ∧ SqL K H o (ns.map V.int) ∧ (¬ ordOk ns many → Q (.bl true) H) ∧ (ordOk ns many → Q (.bl false) H)
theorem nodup_count : ∀ {ns : List Int}, (∀ x ∈ ns, ns.count x ≤ 1) → ns.Nodup
  | [], _ => List.nodup_nil
  | a :: r, h => by
    refine List.nodup_cons.mpr ⟨fun z => ?_, nodup_count fun x hx => ?_⟩
    · have h1 := h a (List.mem_cons_self ..)
      have h2 := List.count_pos_iff.mpr z
      rw [List.count_cons, if_pos (beq_self_eq_true _)] at h1
      omega
    · have h1 := h x (List.mem_cons_of_mem _ hx)
      rw [List.count_cons] at h1
      omega
theorem count_nodup : ∀ {ns : List Int}, ns.Nodup → ∀ x, ns.count x ≤ 1
  | [], _, _ => Nat.zero_le _
  | a :: r, h, x => by
    obtain ⟨h1, h2⟩ := List.nodup_cons.mp h
    rw [List.count_cons]
    by_cases c : (a == x) = true
    · have e : a = x := eq_of_beq c
      rw [← e, List.count_eq_zero_of_not_mem h1]
      split <;> omega
    · rw [if_neg c]
      exact count_nodup h2 x
set_option maxHeartbeats 4000000 in
theorem ok_law_bad (T : Txt K mg D) : FnOk P w K mg base CX0 1 (He.ga K "_law_bad") (D "_law_bad") ["_law_order", "_law_many"] (sp_law_bad K) := by
  refine T.F_law_bad.ok sc_law_bad (fun vs H Q E h => ?_) (fun cdv A outer s H vs Q E hr h => ?_)
  · obtain ⟨_, _, _, rfl, _⟩ := h
    rfl
  obtain ⟨o, many, ns, rfl, hS, q1, q2⟩ := h
  refine ⟨_, PSs.nox (pss_cons (ps_for PassesOwn.never rfl (pi_list (pv 0)) (pg_name (i := 2) sc_law_bad.nd rfl (Or.inl rfl))
      (pss_one (ps_if (PW.pt (pw_or (pt_not (pt_chain op_le op_lt pe_int (pv 2) (pv 1))) (pw_or1 (pt_cmpR op_gt (pe_bm PySem.F.plainAttrs_list PySem.F.slot_list_count PySem.F.type_list_count mt_lcount (pv 0) (pa_cons (pv 2) pa_nil)) pe_int (nomark _))))) (pss_one (ps_ret pe_bl)) pss_nil)))
    (pss_one (ps_ret pe_bl))), ?_⟩
  walk_at "go"
  refine ⟨⟨_, hS⟩, for_list (K := K) (a := o) (xs := ns.map V.int) (fun i σ H' => (∃ x, σ = [some (.ref o), some (.int many), x]) ∧ H' = H ∧ ∀ y ∈ ns.take i, (0 ≤ y ∧ y < many) ∧ ns.count y ≤ 1) ⟨⟨_, rfl⟩, rfl, (by simp)⟩ (fun i σ H' _ p => by rw [p.2.1]; exact hS) ?_ ?_⟩
  · rintro i y σ H' hi ⟨⟨x, rfl⟩, rfl, p⟩
    obtain ⟨n, hn, rfl⟩ := map_int_get hi
    have nmem : n ∈ ns := List.mem_of_getElem? hn
    walk_at "go"
    refine iteB (fun c => ?_) (fun c => ?_)
    · have c1 := of_decide_eq_true c
      walk_at "go"
      refine iteB (fun c2 => ?_) (fun c2 => ?_)
      · have c3 := nndec c2
        exact q1 fun z => c3 (z.1 n nmem).2
      · have c3 := ndec c2
        walk_at "go"
        refine ⟨Or.inl ⟨rfl, _, hS⟩, ?_⟩
        walk_at "go"
        refine ⟨o, ns, n, rfl, rfl, hS, ?_⟩
        walk_at "go"
        refine iteB (fun c4 => ?_) (fun c4 => ?_)
        · refine q1 fun z => ?_
          have c5 := of_decide_eq_true c4
          have c6 := count_nodup z.2 n
          omega
        · have c5 := of_decide_eq_false c4
          refine ⟨⟨_, rfl⟩, rfl, fun y hy => ?_⟩
          rw [List.take_succ, hn] at hy
          rcases List.mem_append.mp hy with hy | hy
          · exact p y hy
          · have e : y = n := by simpa using hy
            rw [e]
            exact ⟨⟨c1, c3⟩, by omega⟩
    · walk_at "go"
      exact iteTb rfl (q1 fun z => of_decide_eq_false c (z.1 n nmem).1)
  rintro σ H' ⟨⟨x, rfl⟩, rfl, p⟩
  rw [List.length_map, List.take_length] at p
  walk_at "go"
  exact q2 ⟨fun y hy => (p y hy).1, nodup_count fun y hy => (p y hy).2⟩
/-! #### apart -/
def sp_apart (K : PySem.W.Frag) : Sp := fun vs H Q _ => ∃ (r : Addr) (ring : Bool) (len one other : Int), vs = [.ref r, .int one, .int other] ∧ SqT K H r (roadV ring len) ∧ 0 < len ∧ Q (.int (apartOf ring len one other)) H
set_option maxHeartbeats 4000000 in
theorem ok_apart (T : Txt K mg D) : FnOk P w K mg base CX0 2 (He.ga K "apart") (D "apart") ["road", "one", "other"] (sp_apart K) := by
  refine T.F_apart.ok sc_apart (fun vs H Q E h => ?_) (fun cdv A outer s H vs Q E hr h => ?_)
  · obtain ⟨_, _, _, _, _, rfl, _⟩ := h
    rfl
  obtain ⟨r, ring, len, one, other, rfl, hS, hl, q⟩ := h
  refine ⟨_, PSs.nox (pss_one (ps_ret (pe_callB call_abs rfl T.m_abs (by decide +kernel) (pa_cons (pe_call (ok_way T) hr rfl T.m_way T.F_way.kp T.b_way .nil pass0 (pa_cons (pv 0) (pa_cons (pv 1) (pa_cons (pv 2) pa_nil)))) pa_nil)))), ?_⟩
  walk_at "go"
  refine ⟨r, ring, len, one, other, rfl, hS, hl, ?_⟩
  walk_at "go"
  exact q
/-! #### check_stop -/
def sp_check_stop (K : PySem.W.Frag) : Sp := fun vs H Q E => ∃ (r t : Addr) (ring : Bool) (len : Int) (s : Stp), vs = [.ref r, .ref t] ∧ SqT K H r (roadV ring len) ∧ SqT K H t (stopV s) ∧
  (stopFlt ring len s = none → Q .non H) ∧ (∀ f, stopFlt ring len s = some f → E (.ref (fltC K f)) none H)
set_option maxHeartbeats 4000000 in
theorem ok_check_stop (T : Txt K mg D) : FnOk P w K mg base (L2.CX P w) 2 (He.ga K "check_stop") (D "check_stop") ["road", "stop"] (sp_check_stop K) := by
  refine T.F_check_stop.ok sc_check_stop (fun vs H Q E h => ?_) (fun cdv A outer s H vs Q E hr h => ?_)
  · obtain ⟨_, _, _, _, _, rfl, _⟩ := h
    rfl
  obtain ⟨r, t, ring, len, s, rfl, hR, hS, q1, q2⟩ := h
  refine ⟨_, (pss_cons (ps_asg (pv 1) (pg_tup rfl (pgs_cons (pg_name (i := 2) sc_check_stop.nd rfl (Or.inl rfl)) (pgs_cons (pg_name (i := 3) sc_check_stop.nd rfl (Or.inl rfl)) (pgs_cons (pg_name (i := 4) sc_check_stop.nd rfl (Or.inl rfl)) (pgs_cons (pg_name (i := 5) sc_check_stop.nd rfl (Or.inl rfl)) pgs_nil))))))
    (pss_cons (ps_if (pt_not (pt_val (pe_call (ok_has_place T) hr rfl T.m_has_place T.F_has_place.kp T.b_has_place .nil pass0 (pa_cons (pv 0) (pa_cons (pv 2) pa_nil))))) (pss_one (ps_raise rfl (takes_of rfl rfl rfl rfl) (pmk_own PySem.F.excBase_ValueError T.x_OffRoad T.m_OffRoad T.kp_OffRoad (raises_own T.sb_OffRoad T.ty_OffRoad) (by exact rfl)))) pss_nil)
    (pss_cons (ps_if (pt_not (PW.pt (pw_and (pt_val (pe_call (ok_is_time T) hr rfl T.m_is_time T.F_is_time.kp T.b_is_time .nil pass0 (pa_cons (pv 3) pa_nil))) (pw_and (pt_val (pe_call (ok_is_time T) hr rfl T.m_is_time T.F_is_time.kp T.b_is_time .nil pass0 (pa_cons (pv 4) pa_nil))) (pw_and1 (pt_val (pe_call (ok_is_time T) hr rfl T.m_is_time T.F_is_time.kp T.b_is_time .nil pass0 (pa_cons (pv 5) pa_nil)))))))) (pss_one (ps_raise rfl (takes_of rfl rfl rfl rfl) (pmk_own PySem.F.excBase_ValueError T.x_BadTime T.m_BadTime T.kp_BadTime (raises_own T.sb_BadTime T.ty_BadTime) (by exact rfl)))) pss_nil)
    (pss_one (ps_if (pt_cmpR op_lt (pv 4) (pv 3) (nomark _)) (pss_one (ps_raise rfl (takes_of rfl rfl rfl rfl) (pmk_own PySem.F.excBase_ValueError T.x_BadTime T.m_BadTime T.kp_BadTime (raises_own T.sb_BadTime T.ty_BadTime) (by exact rfl)))) pss_nil))))), ?_⟩
  refine ⟨_, rfl, t, _, rfl, hS, rfl, ?_⟩
  walk_at "go"
  refine ⟨r, ring, len, s.1, rfl, hR, ?_⟩
  walk_at "go"
  refine iteB (fun c => ?_) (fun c => ?_)
  · have c1 : ¬ onRoad ring len s.1 := fun z => by rw [decide_eq_true (show 0 ≤ s.1 ∧ s.1 < placesOf ring len from z)] at c; exact absurd c (by decide)
    exact q2 .off (by unfold stopFlt; rw [if_pos c1])
  · have c1 : onRoad ring len s.1 := by
      by_cases z : onRoad ring len s.1
      · exact z
      · rw [decide_eq_false (show ¬ (0 ≤ s.1 ∧ s.1 < placesOf ring len) from z)] at c; exact absurd c (by decide)
    have badT : ¬ (isTime s.2.1 ∧ isTime s.2.2.1 ∧ isTime s.2.2.2) → E (.ref (He.ga K "BadTime")) none H := fun z => q2 .time (by unfold stopFlt; rw [if_neg (fun y => y c1), if_pos z])
    walk_at "go"
    refine iteB (fun t1 => ?_) (fun t1 => ?_)
    case refine_2 =>
      refine iteTb rfl ?_
      exact badT fun z => of_decide_eq_false t1 z.1
    walk_at "go"
    refine iteB (fun t2 => ?_) (fun t2 => ?_)
    case refine_2 =>
      refine iteTb rfl ?_
      exact badT fun z => of_decide_eq_false t2 z.2.1
    walk_at "go"
    refine iteB (fun t3 => ?_) (fun t3 => ?_)
    · refine badT fun z => ?_
      rw [decide_eq_true z.2.2] at t3
      exact absurd t3 (by decide)
    have t3' : isTime s.2.2.2 := by
      by_cases z : isTime s.2.2.2
      · exact z
      · rw [decide_eq_false z] at t3; exact absurd t3 (by decide)
    have hT : isTime s.2.1 ∧ isTime s.2.2.1 ∧ isTime s.2.2.2 := ⟨of_decide_eq_true t1, of_decide_eq_true t2, t3'⟩
    walk_at "go"
    refine iteB (fun c2 => ?_) (fun c2 => ?_)
    · exact q2 .time (by unfold stopFlt; rw [if_neg (fun y => y c1), if_neg (fun y => y hT), if_pos (of_decide_eq_true c2)])
    · exact q1 (by unfold stopFlt; rw [if_neg (fun y => y c1), if_neg (fun y => y hT), if_neg (of_decide_eq_false c2)])
/-! #### _law_road_by -/
def sp_law_road_by (K : PySem.W.Frag) : Sp := fun vs H Q _ => ∃ (c : Int), vs = [.int c] ∧ ∀ (ring : Bool) (len : Int) (r : Addr) (H' : Hp), 1 ≤ len → len ≤ 1000000000 → Ex H H' → H r = none → H' r = some (.tup (roadV ring len)) → Q (.ref r) H'
theorem at4 {a b c d i : Int} (h0 : 0 ≤ i) (h4 : i < 4) : ∃ v, atI [V.int a, V.int b, V.int c, V.int d] i = some (.int v) ∧ (v = a ∨ v = b ∨ v = c ∨ v = d) := by
  have : i = 0 ∨ i = 1 ∨ i = 2 ∨ i = 3 := by omega
  rcases this with rfl | rfl | rfl | rfl
  · exact ⟨a, rfl, by simp⟩
  · exact ⟨b, rfl, by simp⟩
  · exact ⟨c, rfl, by simp⟩
  · exact ⟨d, rfl, by simp⟩
theorem at3 {a b c i : Int} (h0 : 0 ≤ i) (h4 : i < 3) : ∃ v, atI [V.int a, V.int b, V.int c] i = some (.int v) ∧ (v = a ∨ v = b ∨ v = c) := by
  have : i = 0 ∨ i = 1 ∨ i = 2 := by omega
  rcases this with rfl | rfl | rfl
  · exact ⟨a, rfl, by simp⟩
  · exact ⟨b, rfl, by simp⟩
  · exact ⟨c, rfl, by simp⟩
theorem at2 {a b i : Int} (h0 : 0 ≤ i) (h4 : i < 2) : ∃ v, atI [V.int a, V.int b] i = some (.int v) ∧ (v = a ∨ v = b) := by
  have : i = 0 ∨ i = 1 := by omega
  rcases this with rfl | rfl
  · exact ⟨a, rfl, by simp⟩
  · exact ⟨b, rfl, by simp⟩
theorem atRoad {c : Int} : ∃ ring, atI [V.str "line", V.str "ring"] (c % 2) = some (.str (wordOf ring)) := by
  have : c % 2 = 0 ∨ c % 2 = 1 := by omega
  rcases this with h | h <;> rw [h]
  · exact ⟨false, rfl⟩
  · exact ⟨true, rfl⟩
set_option maxHeartbeats 4000000 in
theorem ok_law_road_by (T : Txt K mg D) : FnOk P w K mg base CX0 2 (He.ga K "_law_road_by") (D "_law_road_by") ["_law_cell"] (sp_law_road_by K) := by
  refine T.F_law_road_by.ok sc_law_road_by (fun vs H Q E h => ?_) (fun cdv A outer s H vs Q E hr h => ?_)
  · obtain ⟨_, rfl, _⟩ := h
    rfl
  obtain ⟨c, rfl, q⟩ := h
  refine ⟨_, PSs.nox (pss_cons (ps_set (i := 1) sc_law_road_by.nd rfl (Or.inl rfl) (pe_op op_add pe_int (pe_op op_mod (pe_op op_fdiv (pv 0) pe_int) pe_int)))
    (Evl.pss_cut (ps_if (pt_cmpR op_eq (pe_op op_mod (pe_op op_fdiv (pv 0) pe_int) pe_int) pe_int (nomark _)) (pss_one (ps_set (i := 1) sc_law_road_by.nd rfl (Or.inl rfl) (pe_op op_add pe_int (pe_call (ok_law_wide T) hr rfl T.m_law_wide T.F_law_wide.kp T.b_law_wide .nil pass0 (pa_cons (pe_op op_fdiv (pv 0) pe_int) (pa_cons (pe_op op_pow pe_int pe_int) pa_nil)))))) pss_nil)
    (Evl.pss_cut (ps_if (pt_cmpR op_eq (pe_op op_mod (pe_op op_fdiv (pv 0) pe_int) pe_int) pe_int (nomark _)) (pss_one (ps_set (i := 1) sc_law_road_by.nd rfl (Or.inl rfl) (pe_ix ix_list (pe_lst (pa_cons pe_int (pa_cons pe_int (pa_cons pe_int (pa_cons (pe_op op_pow pe_int pe_int) pa_nil))))) (pe_op op_mod (pe_op op_fdiv (pv 0) pe_int) pe_int) (fun _ _ => rfl)))) pss_nil)
    (pss_one (ps_ret (pe_tup (pa_cons (pe_ix ix_list (pe_lst (pa_cons pe_str (pa_cons pe_str pa_nil))) (pe_op op_mod (pv 0) pe_int) (fun _ _ => rfl)) (pa_cons (pv 1) pa_nil)))))))), ?_⟩
  have h9 : (10 : Int) ^ (9 : Int).toNat = 1000000000 := by decide +kernel
  walk_at "go"
  refine ⟨fun σ' H' => ∃ len, 1 ≤ len ∧ len ≤ 1000000000 ∧ σ' = [some (V.int c), some (V.int len)] ∧ Ex H H', ?_, ?_⟩
  · walk_at "go"
    refine iteB (fun b => ?_) (fun b => ?_)
    · walk_at "go"
      intro v v0 v1
      walk_at "go"
      exact ⟨_, by omega, by omega, rfl, Ex.refl H⟩
    · exact ⟨_, by omega, by omega, rfl, Ex.refl H⟩
  rintro σ' H1 ⟨len, l1, l2, rfl, e1⟩
  refine ⟨fun σ' H' => ∃ len, 1 ≤ len ∧ len ≤ 1000000000 ∧ σ' = [some (V.int c), some (V.int len)] ∧ Ex H H', ?_, ?_⟩
  · walk_at "go"
    refine iteB (fun b => ?_) (fun b => ?_)
    · walk_at "go"
      intro p hp
      walk_at "go"
      obtain ⟨v, hv, hv2⟩ := at4 (a := 1) (b := 2) (c := 3) (d := 10 ^ (9 : Int).toNat) (i := c / 50 % 4) (by omega) (by omega)
      refine ⟨p, _, _, _, rfl, rfl, SqL.of upd_same, hv, ?_⟩
      exact ⟨_, by omega, by omega, rfl, e1.trans (Evl.Ex.new hp)⟩
    · exact ⟨_, l1, l2, rfl, e1⟩
  rintro σ' H2 ⟨len, l1, l2, rfl, e2⟩
  walk_at "go"
  intro p hp
  walk_at "go"
  obtain ⟨ring, hr⟩ := atRoad (c := c)
  refine ⟨p, _, _, _, rfl, rfl, SqL.of upd_same, hr, ?_⟩
  walk_at "go"
  intro r hr
  have e3 : Ex H (upd H2 p (.lst [V.str "line", V.str "ring"])) := e2.trans (Evl.Ex.new hp)
  exact q ring len r _ l1 l2 (e3.trans (Evl.Ex.new hr)) (Evl.fresh_back e3 hr) upd_same
/-! #### _law_place_by -/
def sp_law_place_by (K : PySem.W.Frag) : Sp := fun vs H Q _ => ∃ (r : Addr) (ring : Bool) (len c : Int), vs = [.ref r, .int c] ∧ SqT K H r (roadV ring len) ∧ 1 ≤ len ∧ ∀ v H', 0 ≤ v → v < placesOf ring len → Ex H H' → Q (.int v) H'
set_option maxHeartbeats 4000000 in
theorem ok_law_place_by (T : Txt K mg D) : FnOk P w K mg base CX0 2 (He.ga K "_law_place_by") (D "_law_place_by") ["_law_road", "_law_cell"] (sp_law_place_by K) := by
  refine T.F_law_place_by.ok sc_law_place_by (fun vs H Q E h => ?_) (fun cdv A outer s H vs Q E hr h => ?_)
  · obtain ⟨_, _, _, _, rfl, _⟩ := h
    rfl
  obtain ⟨r, ring, len, c, rfl, hS, hl, q⟩ := h
  refine ⟨_, PSs.nox (pss_cons (ps_set (i := 2) sc_law_place_by.nd rfl (Or.inl rfl) (pe_call (ok_law_places T) hr rfl T.m_law_places T.F_law_places.kp T.b_law_places .nil pass0 (pa_cons (pv 0) pa_nil)))
    (pss_cons (ps_if (pt_cmpR op_eq (pe_op op_mod (pv 1) pe_int) pe_int (nomark _)) (pss_one (ps_ret (pe_ix ix_list (pe_lst (pa_cons pe_int (pa_cons (pe_op op_sub (pv 2) pe_int) (pa_cons (pe_op op_fdiv (pv 2) pe_int) pa_nil)))) (pe_op op_mod (pe_op op_fdiv (pv 1) pe_int) pe_int) (fun _ _ => rfl)))) pss_nil)
    (pss_one (ps_ret (pe_call (ok_law_wide T) hr rfl T.m_law_wide T.F_law_wide.kp T.b_law_wide .nil pass0 (pa_cons (pe_op op_fdiv (pv 1) pe_int) (pa_cons (pv 2) pa_nil))))))), ?_⟩
  have hm : 1 ≤ placesOf ring len := by unfold placesOf; split <;> omega
  walk_at "go"
  refine ⟨r, ring, len, rfl, hS, ?_⟩
  walk_at "go"
  refine iteB (fun b => ?_) (fun b => ?_)
  · walk_at "go"
    intro p hp
    walk_at "go"
    obtain ⟨v, hv, hv2⟩ := at3 (a := 0) (b := placesOf ring len - 1) (c := placesOf ring len / 2) (i := c / 7 % 3) (by omega) (by omega)
    exact ⟨p, _, _, _, rfl, rfl, SqL.of upd_same, hv, q _ _ (by omega) (by omega) (Evl.Ex.new hp)⟩
  · walk_at "go"
    exact fun v v0 v1 => q _ _ v0 v1 (Ex.refl H)
/-! #### _law_start_by -/
def sp_law_start_by (K : PySem.W.Frag) : Sp := fun vs H Q _ => ∃ (r : Addr) (ring : Bool) (len c : Int), vs = [.ref r, .int c] ∧ SqT K H r (roadV ring len) ∧ 1 ≤ len ∧ len ≤ 1000000000 ∧ ∀ v, 0 ≤ v → v ≤ 1000000000000 → Q (.int v) H
set_option maxHeartbeats 4000000 in
theorem ok_law_start_by (T : Txt K mg D) : FnOk P w K mg base CX0 2 (He.ga K "_law_start_by") (D "_law_start_by") ["_law_road", "_law_cell"] (sp_law_start_by K) := by
  refine T.F_law_start_by.ok sc_law_start_by (fun vs H Q E h => ?_) (fun cdv A outer s H vs Q E hr h => ?_)
  · obtain ⟨_, _, _, _, rfl, _⟩ := h
    rfl
  obtain ⟨r, ring, len, c, rfl, hS, l1, l2, q⟩ := h
  refine ⟨_, PSs.nox (pss_cons (ps_if (pt_cmpR op_eq (pe_op op_mod (pv 1) pe_int) pe_int (nomark _)) (pss_one (ps_ret pe_int)) pss_nil)
    (pss_cons (ps_if (pt_cmpR op_eq (pe_op op_mod (pv 1) pe_int) pe_int (nomark _)) (pss_one (ps_ret (pe_op op_mod (pe_op op_fdiv (pv 1) pe_int) (pe_op op_add (pe_op op_mul pe_int (pe_ix ix_tup (pv 0) pe_int (fun _ _ => rfl))) pe_int)))) pss_nil)
    (pss_one (ps_ret (pe_call (ok_law_wide T) hr rfl T.m_law_wide T.F_law_wide.kp T.b_law_wide .nil pass0 (pa_cons (pe_op op_fdiv (pv 1) pe_int) (pa_cons (pe_op op_add (pe_op op_pow pe_int pe_int) pe_int) pa_nil))))))), ?_⟩
  have h12 : (10 : Int) ^ (12 : Int).toNat = 1000000000000 := by decide +kernel
  walk_at "go"
  refine iteB (fun b => ?_) (fun b => ?_)
  · walk_at "go"
    exact q _ (by decide) (by decide)
  walk_at "go"
  refine iteB (fun b => ?_) (fun b => ?_)
  · walk_at "go"
    have h1 := Int.emod_nonneg (c / 3) (show 2 * len + 1 ≠ 0 by omega)
    have h2 := Int.emod_lt_of_pos (c / 3) (show 0 < 2 * len + 1 by omega)
    exact q _ h1 (by show c / 3 % (2 * len + 1) ≤ _; omega)
  walk_at "go"
  exact fun v v0 v1 => q v v0 (by rw [h12] at v1; omega)
/-! #### _law_order_by -/
theorem rg_ints (many : Nat) : ∃ ls : List Int, rgV 0 (many : Int) = ls.map V.int ∧ ls.length = many := by
  refine ⟨(List.range ((many : Int) - 0).toNat).map (fun i : Nat => 0 + (i : Int)), ?_, ?_⟩
  · unfold rgV
    rw [List.map_map]
    rfl
  · rw [List.length_map, List.length_range]
    omega
/-- a list without the one at k -/
theorem cut_out {ls : List Int} {k : Nat} (h : k < ls.length) : cutV (ls.map V.int) none (some (k : Int)) ++ cutV (ls.map V.int) (some ((k : Int) + 1)) none = (ls.take k ++ ls.drop (k + 1)).map V.int ∧ (ls.take k ++ ls.drop (k + 1)).length = ls.length - 1 := by
  have hl : (ls.map V.int).length = ls.length := List.length_map _
  refine ⟨?_, ?_⟩
  · rw [cut_to (by omega)]
    have e := cut_from (xs := ls.map V.int) (k := k + 1) (by omega)
    rw [show ((k : Int) + 1) = ((k + 1 : Nat) : Int) by omega, e, List.map_append, List.map_take, List.map_drop]
  · rw [List.length_append, List.length_take, List.length_drop]
    omega
theorem cut_put {ls : List Int} {k : Nat} {v : Int} (h : k ≤ ls.length) : cutV (ls.map V.int) none (some (k : Int)) ++ [V.int v] ++ cutV (ls.map V.int) (some (k : Int)) none = (ls.take k ++ [v] ++ ls.drop k).map V.int ∧ (ls.take k ++ [v] ++ ls.drop k).length = ls.length + 1 := by
  have hl : (ls.map V.int).length = ls.length := List.length_map _
  refine ⟨?_, ?_⟩
  · rw [cut_to (by omega), cut_from (by omega)]
    simp only [List.map_append, List.map_take, List.map_drop, List.map_cons, List.map_nil]
  · rw [List.length_append, List.length_append, List.length_take, List.length_drop, List.length_singleton]
    omega
theorem cut_outI {ls : List Int} {i : Int} (h0 : 0 ≤ i) (h1 : i < ls.length) : ∃ os : List Int, cutV (ls.map V.int) none (some i) ++ cutV (ls.map V.int) (some (i + 1)) none = os.map V.int ∧ os.length = ls.length - 1 := by
  obtain ⟨k, rfl⟩ : ∃ k : Nat, i = k := ⟨i.toNat, by omega⟩
  obtain ⟨c1, c2⟩ := cut_out (ls := ls) (k := k) (by omega)
  exact ⟨_, c1, c2⟩
theorem cut_putI {ls : List Int} {i v : Int} (h0 : 0 ≤ i) (h1 : i ≤ ls.length) : ∃ os : List Int, cutV (ls.map V.int) none (some i) ++ [V.int v] ++ cutV (ls.map V.int) (some i) none = os.map V.int ∧ os.length = ls.length + 1 := by
  obtain ⟨k, rfl⟩ : ∃ k : Nat, i = k := ⟨i.toNat, by omega⟩
  obtain ⟨c1, c2⟩ := cut_put (ls := ls) (k := k) (v := v) (by omega)
  exact ⟨_, c1, c2⟩
theorem int_at {ls : List Int} {i : Int} (h0 : 0 ≤ i) (h1 : i < ls.length) : ∃ z, atI (ls.map V.int) i = some (.int z) := by
  obtain ⟨v, hv, hv2⟩ := atI_lt (xs := ls.map V.int) h0 (by rw [List.length_map]; exact h1)
  obtain ⟨z, hz, rfl⟩ := map_int_get hv2
  exact ⟨z, hv⟩
def sp_law_order_by (K : PySem.W.Frag) : Sp := fun vs H Q _ => ∃ (a : Addr) (many : Nat) (ns : List Int), vs = [.ref a, .int many] ∧ SqL K H a (ns.map V.int) ∧ ns.length ≤ 63 ∧ many ≤ 7 ∧
  ∀ (g o p : Addr) (gs os : List Int) (H' : Hp), gs.length ≤ 100 → os.length ≤ 100 → Ex H H' → H g = none → H' g = some (.lst (gs.map V.int)) → H' o = some (.lst (os.map V.int)) → H' p = some (.tup [.ref g, .ref o]) → Q (.ref p) H'
set_option maxHeartbeats 4000000 in
theorem ok_law_order_by (T : Txt K mg D) : FnOk P w K mg base CX0 2 (He.ga K "_law_order_by") (D "_law_order_by") ["_law_script", "_law_many"] (sp_law_order_by K) := by
  refine T.F_law_order_by.ok sc_law_order_by (fun vs H Q E h => ?_) (fun cdv A outer s H vs Q E hr h => ?_)
  · obtain ⟨_, _, _, rfl, _⟩ := h
    rfl
  obtain ⟨a, many, ns, rfl, hS, hn, hm, q⟩ := h
  refine ⟨_, PSs.nox (pss_cons (ps_set (i := 2) sc_law_order_by.nd rfl (Or.inl rfl) (pe_lst pa_nil))
    (pss_cons (ps_set (i := 3) sc_law_order_by.nd rfl (Or.inl rfl) (pe_listRg rfl rfl T.m_list (prg_1 rfl T.m_range (pv 1))))
    (pss_cons (ps_for PassesOwn.never rfl (pi_range1 rfl T.m_range (pa_cons (pe_op op_mod (pe_call (ok_law_cell_at T) hr rfl T.m_law_cell_at T.F_law_cell_at.kp T.b_law_cell_at .nil pass0 (pa_cons (pv 0) (pa_cons pe_int pa_nil))) (pe_op op_add (pv 1) pe_int)) pa_nil)) (pg_name (i := 4) sc_law_order_by.nd rfl (Or.inl rfl))
      (pss_cons (ps_set (i := 5) sc_law_order_by.nd rfl (Or.inl rfl) (pe_op op_mod (pe_call (ok_law_cell_at T) hr rfl T.m_law_cell_at T.F_law_cell_at.kp T.b_law_cell_at .nil pass0 (pa_cons (pv 0) (pa_cons (pe_op op_add pe_int (pv 4)) pa_nil))) (pe_callB call_len_seq rfl T.m_len PySem.boot_len (pa_cons (pv 3) pa_nil))))
      (pss_cons (ps_expr (pe_bm PySem.F.plainAttrs_list PySem.F.slot_list_append PySem.F.type_list_append mt_append (pv 2) (pa_cons (pe_ix ix_list (pv 3) (pv 5) (fun _ _ => rfl)) pa_nil)))
      (pss_one (ps_set (i := 3) sc_law_order_by.nd rfl (Or.inl rfl) (pe_op op_cat (pe_slice sl_list (pv 3) po_none (po_some (pv 5))) (pe_slice sl_list (pv 3) (po_some (pe_op op_add (pv 5) pe_int)) po_none)))))))
    (pss_cons (ps_set (i := 6) sc_law_order_by.nd rfl (Or.inl rfl) (pe_call (ok_law_cell_at T) hr rfl T.m_law_cell_at T.F_law_cell_at.kp T.b_law_cell_at .nil pass0 (pa_cons (pv 0) (pa_cons pe_int pa_nil))))
    (pss_cons (ps_if (pt_cmpR op_eq (pe_op op_mod (pv 6) pe_int) pe_int (nomark _)) (pss_cons (ps_set (i := 5) sc_law_order_by.nd rfl (Or.inl rfl) (pe_op op_mod (pe_op op_fdiv (pv 6) pe_int) (pe_op op_add (pe_callB call_len_seq rfl T.m_len PySem.boot_len (pa_cons (pv 2) pa_nil)) pe_int)))
      (pss_cons (ps_set (i := 7) sc_law_order_by.nd rfl (Or.inl rfl) (pe_op op_mul (pe_op op_mod (pe_op op_fdiv (pv 6) pe_int) pe_int) (pe_ix ix_list (pe_lst (pa_cons pe_int (pa_cons (pe_op op_pow pe_int pe_int) pa_nil))) (pe_op op_mod (pe_op op_fdiv (pv 6) pe_int) pe_int) (fun _ _ => rfl))))
      (pss_cons (ps_set (i := 8) sc_law_order_by.nd rfl (Or.inl rfl) (pe_ix ix_list (pe_lst (pa_cons (pe_op op_sub (pe_un un_neg pe_int) (pv 7)) (pa_cons (pv 1) (pa_cons (pe_op op_add (pv 1) (pv 7)) (pa_cons (pv 1) pa_nil))))) (pe_op op_mod (pe_op op_fdiv (pv 6) pe_int) pe_int) (fun _ _ => rfl)))
      (Evl.pss_cut (ps_if (PW.pt (pw_and (pt_cmpR op_gt (pe_callB call_len_seq rfl T.m_len PySem.boot_len (pa_cons (pv 2) pa_nil)) pe_int (nomark _)) (pw_and1 (pt_cmpR op_eq (pe_op op_mod (pe_op op_fdiv (pv 6) pe_int) pe_int) pe_int (nomark _))))) (pss_one (ps_set (i := 8) sc_law_order_by.nd rfl (Or.inl rfl) (pe_ix ix_list (pv 2) (pe_op op_mod (pe_op op_fdiv (pv 6) pe_int) (pe_callB call_len_seq rfl T.m_len PySem.boot_len (pa_cons (pv 2) pa_nil))) (fun _ _ => rfl)))) pss_nil)
      (pss_one (ps_ret (pe_tup (pa_cons (pv 2) (pa_cons (pe_op op_cat (pe_op op_cat (pe_slice sl_list (pv 2) po_none (po_some (pv 5))) (pe_lst (pa_cons (pv 8) pa_nil))) (pe_slice sl_list (pv 2) (po_some (pv 5)) po_none)) pa_nil))))))))) pss_nil)
    (pss_one (ps_ret (pe_tup (pa_cons (pv 2) (pa_cons (pv 2) pa_nil)))))))))), ?_⟩
  walk_at "go"
  intro O hO
  have e1 := Evl.Ex.new (o := .lst []) hO
  have hO1 : (upd H O (.lst [])) O = some (.lst []) := upd_same
  generalize upd H O (.lst []) = H1 at e1 hO1
  walk_at "go"
  intro L hL
  obtain ⟨ls0, rg, lsl⟩ := rg_ints many
  rw [rg]
  have nOL : O ≠ L := ne_of_none hO1 hL
  have e2 : Ex H (upd H1 L (.lst (ls0.map V.int))) := e1.trans (Evl.Ex.new hL)
  have hO2 : (upd H1 L (.lst (ls0.map V.int))) O = some (.lst []) := by rw [upd_ne nOL]; exact hO1
  have hL2 : (upd H1 L (.lst (ls0.map V.int))) L = some (.lst (ls0.map V.int)) := upd_same
  generalize upd H1 L (.lst (ls0.map V.int)) = H2 at e2 hO2 hL2
  walk_at "go"
  refine ⟨a, ns, 32, rfl, Evl.ex_l e2 hS, hn, fun c32 => ?_⟩
  have m0 := Int.emod_nonneg c32 (show ((many : Int) + 1) ≠ 0 by omega)
  have m1 := Int.emod_lt_of_pos c32 (show 0 < ((many : Int) + 1) by omega)
  walk_at "go"
  refine for_range (lo := 0) (n := (c32 % ((many : Int) + 1)).toNat) (fun i σ H' => ∃ (L : Addr) (x4 x5 : Option V) (os ls : List Int), σ = [some (.ref a), some (.int many), some (.ref O), some (.ref L), x4, x5, none, none, none] ∧ Ex H H' ∧ H' O = some (.lst (os.map V.int)) ∧ H' L = some (.lst (ls.map V.int)) ∧ os.length = i ∧ ls.length + i = many ∧ O ≠ L) ⟨L, _, _, [], ls0, rfl, e2, hO2, hL2, rfl, by omega, nOL⟩ ?_ ?_
  · rintro i σ H3 hi ⟨L3, x4, x5, os, ls, rfl, e3, hO3, hL3, lo, ll, n3⟩
    walk_at "go"
    refine ⟨a, ns, _, rfl, Evl.ex_l e3 hS, hn, fun v => ?_⟩
    have hll : (ls.map V.int).length = ls.length := List.length_map _
    have lp : (0 : Int) < (((ls.map V.int).length : Nat) : Int) := by omega
    walk_at "go"
    have hk0 := Int.emod_nonneg v (show (((ls.map V.int).length : Nat) : Int) ≠ 0 by omega)
    have hk1 := Int.emod_lt_of_pos v lp
    obtain ⟨z, hz⟩ := int_at (ls := ls) hk0 (by omega)
    refine ⟨Or.inl ⟨rfl, _, SqL.of hO3⟩, ?_⟩
    walk_at "go"
    refine ⟨O, _, _, rfl, rfl, hO3, Evl.sz_lt (by rw [List.length_map]; omega), ?_⟩
    have hL4 : (upd H3 O (.lst (os.map V.int ++ [.int z]))) L3 = some (.lst (ls.map V.int)) := by rw [upd_ne (Ne.symm n3)]; exact hL3
    have e4 : Ex H (upd H3 O (.lst (os.map V.int ++ [.int z]))) := Evl.Ex.mut e3 hO
    have hO4 : (upd H3 O (.lst (os.map V.int ++ [.int z]))) O = some (.lst (os.map V.int ++ [.int z])) := upd_same
    generalize upd H3 O (.lst (os.map V.int ++ [.int z])) = H4 at hL4 e4 hO4
    obtain ⟨ls2, cut1, cut2⟩ := cut_outI (ls := ls) hk0 (by omega)
    walk_at "go"
    intro p1 hp1
    walk_at "go"
    have hL5 := (Evl.Ex.new (o := .lst (cutV (ls.map V.int) none (some (v % (((ls.map V.int).length : Nat) : Int))))) hp1) _ _ hL4
    refine ⟨L3, _, rfl, SqL.of hL5, fun p2 hp2 => ?_⟩
    have n12 : p1 ≠ p2 := fun y => by rw [← y, upd_same] at hp2; cases hp2
    have le1 := cutV_length (ls.map V.int) none (some (v % (((ls.map V.int).length : Nat) : Int)))
    have le2 := cutV_length (ls.map V.int) (some (v % (((ls.map V.int).length : Nat) : Int) + 1)) none
    refine ⟨p1, p2, _, _, rfl, rfl, (by rw [upd_ne n12]; exact upd_same), upd_same, Evl.sz_of (by omega), fun p3 hp3 => ?_⟩
    refine ⟨p3, _, _, os ++ [z], ls2, rfl, ?_, ?_, ?_, ?_, ?_, ?_⟩
    · exact ((e4.trans (Evl.Ex.new hp1)).trans (Evl.Ex.new hp2)).trans (Evl.Ex.new hp3)
    · rw [List.map_append]
      exact (((Evl.Ex.new hp1).trans (Evl.Ex.new hp2)).trans (Evl.Ex.new hp3)) _ _ hO4
    · rw [upd_same]
      exact congrArg (fun l => some (HO.lst l)) cut1
    · rw [List.length_append, lo]
      rfl
    · omega
    · exact ne_of_none (((Evl.Ex.new hp1).trans (Evl.Ex.new hp2)) _ _ hO4) hp3
  · rintro σ H3 ⟨L3, x4, x5, os, ls, rfl, e3, hO3, hL3, lo, ll, n3⟩
    have hO3s : SqL K H3 O (os.map V.int) := SqL.of hO3
    have hol : (os.map V.int).length = os.length := List.length_map _
    have lt7 : os.length ≤ 7 := by omega
    have op0 : (0 : Int) < (((os.map V.int).length : Nat) : Int) + 1 := by omega
    walk_at "go"
    refine ⟨a, ns, 41, rfl, Evl.ex_l e3 hS, hn, fun c => ?_⟩
    walk_at "go"
    refine iteB (fun b => ?_) (fun b => ?_)
    · walk_at "go"
      intro p1 hp1
      walk_at "go"
      have f0 := Int.emod_nonneg (c / 96) (show (9 : Int) ≠ 0 by decide)
      have f1 := Int.emod_lt_of_pos (c / 96) (show (0 : Int) < 9 by decide)
      obtain ⟨y, hy, hy2⟩ := at2 (a := 1) (b := 10 ^ (15 : Int).toNat) (i := c / 864 % 2) (by omega) (by omega)
      refine ⟨p1, _, _, _, rfl, rfl, SqL.of upd_same, hy, ?_⟩
      walk_at "go"
      refine And.intro (show CMul (c / 96 % 9) y from Or.inl ⟨by omega, by omega⟩) ?_
      walk_at "go"
      intro p2 hp2
      walk_at "go"
      obtain ⟨w4, hw, hw2⟩ := at4 (a := -1 - c / 96 % 9 * y) (b := (many : Int)) (c := (many : Int) + c / 96 % 9 * y) (d := (many : Int)) (i := c / 24 % 4) (by omega) (by omega)
      refine ⟨p2, _, _, _, rfl, rfl, SqL.of upd_same, hw, ?_⟩
      have e34 := (Evl.Ex.new (o := .lst [.int 1, .int (10 ^ (15 : Int).toNat)]) hp1).trans (Evl.Ex.new (o := .lst [.int (-1 - c / 96 % 9 * y), .int many, .int (many + c / 96 % 9 * y), .int many]) hp2)
      have e4 := e3.trans e34
      have hO4 := e34 _ _ hO3
      walk_at "go"
      generalize upd (upd H3 p1 (.lst [.int 1, .int (10 ^ (15 : Int).toNat)])) p2 (.lst [.int (-1 - c / 96 % 9 * y), .int many, .int (many + c / 96 % 9 * y), .int many]) = H4 at e34 e4 hO4
      have hO4s : SqL K H4 O (os.map V.int) := SqL.of hO4
      refine ⟨fun σ' H' => (∃ bd : Int, σ' = [some (.ref a), some (.int many), some (.ref O), some (.ref L3), x4, some (.int (c / 3 % ((((os.map V.int).length : Nat) : Int) + 1))), some (.int c), some (.int (c / 96 % 9 * y)), some (.int bd)]) ∧ H' = H4, ?_, ?_⟩
      · walk_at "go"
        refine iteB (fun b2 => ?_) (fun b2 => ?_)
        · have b3 := of_decide_eq_true b2
          walk_at "go"
          refine iteB (fun b4 => ?_) (fun b4 => ?_)
          · obtain ⟨z, hz⟩ := int_at (ls := os) (i := c / 48 % (((os.map V.int).length : Nat) : Int)) (Int.emod_nonneg _ (by omega)) (by have := Int.emod_lt_of_pos (c / 48) b3; omega)
            walk_at "go"
            exact ⟨⟨_, rfl⟩, rfl⟩
          · exact ⟨⟨_, rfl⟩, rfl⟩
        · exact iteFb rfl ⟨⟨_, rfl⟩, rfl⟩
      rintro σ' H5 ⟨⟨bd, rfl⟩, rfl⟩
      have k0 := Int.emod_nonneg (c / 3) (show (((os.map V.int).length : Nat) : Int) + 1 ≠ 0 by omega)
      have k1 := Int.emod_lt_of_pos (c / 3) op0
      obtain ⟨os2, cut1, cut2⟩ := cut_putI (ls := os) (v := bd) k0 (by omega)
      have le1 := cutV_length (os.map V.int) none (some (c / 3 % ((((os.map V.int).length : Nat) : Int) + 1)))
      have le2 := cutV_length (os.map V.int) (some (c / 3 % ((((os.map V.int).length : Nat) : Int) + 1))) none
      walk_at "go"
      intro r1 hr1
      walk_at "go"
      intro r2 hr2
      have n12 : r1 ≠ r2 := fun y => by rw [← y, upd_same] at hr2; cases hr2
      refine ⟨r1, r2, _, _, rfl, rfl, (by rw [upd_ne n12]; exact upd_same), upd_same, Evl.sz_of (by rw [List.length_singleton]; omega), fun r3 hr3 => ?_⟩
      walk_at "go"
      refine ⟨O, _, rfl, SqL.of ((((Evl.Ex.new hr1).trans (Evl.Ex.new hr2)).trans (Evl.Ex.new hr3)) _ _ hO4), fun r4 hr4 => ?_⟩
      have n34 : r3 ≠ r4 := fun y => by rw [← y, upd_same] at hr4; cases hr4
      refine ⟨r3, r4, _, _, rfl, rfl, (by rw [upd_ne n34]; exact upd_same), upd_same, Evl.sz_of (by rw [List.length_append, List.length_singleton]; omega), fun r5 hr5 => ?_⟩
      walk_at "go"
      intro r6 hr6
      have e5 := ((((Evl.Ex.new hr1).trans (Evl.Ex.new hr2)).trans (Evl.Ex.new hr3)).trans (Evl.Ex.new hr4)).trans (Evl.Ex.new (o := .lst (cutV (os.map V.int) none (some (c / 3 % ((((os.map V.int).length : Nat) : Int) + 1))) ++ [V.int bd] ++ cutV (os.map V.int) (some (c / 3 % ((((os.map V.int).length : Nat) : Int) + 1))) none)) hr5)
      refine q O r5 r6 os os2 _ (by omega) (by omega) (e4.trans (e5.trans (Evl.Ex.new hr6))) hO ((e5.trans (Evl.Ex.new hr6)) _ _ hO4) ?_ upd_same
      refine (Evl.Ex.new hr6) _ _ ?_
      rw [upd_same]
      exact congrArg (fun l => some (HO.lst l)) cut1
    · walk_at "go"
      intro p hp
      have e4 := Evl.Ex.new (o := .tup [.ref O, .ref O]) hp
      exact q O O p os os _ (by omega) (by omega) (e3.trans e4) hO (e4 _ _ hO3) (e4 _ _ hO3) upd_same
/-! #### _law_rows -/
def sp_law_rows (K : PySem.W.Frag) : Sp := fun vs H Q _ => ∃ (r sl o : Addr) (ring : Bool) (len home start : Int) (ps : List Addr) (sts : List Stp) (ns : List Int) (_u : Unit), vs = [.ref r, .int home, .int start, .ref sl, .ref o] ∧ SqT K H r (roadV ring len) ∧ SqL K H sl (ps.map V.ref) ∧ StopsR K H ps sts ∧ SqL K H o (ns.map V.int) ∧ ns.length ≤ 4000 ∧ 0 < len ∧ onRoad ring len home ∧ (∀ s ∈ sts, goodStop ring len s) ∧ (∀ n ∈ ns, 0 ≤ n ∧ n < sts.length) ∧
  (rowsOf ring len sts home start ns = none → ∀ H', Ex H H' → Q .non H') ∧
  (∀ rs, rowsOf ring len sts home start ns = some rs → ∀ l' qs H', Ex H H' → H l' = none → H' l' = some (.lst (qs.map V.ref)) → RowsR H' qs rs → Q (.ref l') H')
theorem stAt_mem {sts : List Stp} {n : Int} (h0 : 0 ≤ n) (h1 : n < sts.length) : stAt sts n ∈ sts := List.mem_of_getElem? (stAt_eq h0 h1)
set_option maxHeartbeats 4000000 in
theorem ok_law_rows (T : Txt K mg D) : FnOk P w K mg base CX0 2 (He.ga K "_law_rows") (D "_law_rows") ["_law_road", "_law_home", "_law_start", "_law_stops", "_law_order"] (sp_law_rows K) := by
  refine T.F_law_rows.ok sc_law_rows (fun vs H Q E h => ?_) (fun cdv A outer s H vs Q E hr h => ?_)
  · obtain ⟨_, _, _, _, _, _, _, _, _, _, _, rfl, _⟩ := h
    rfl
  obtain ⟨r, sl, o, ring, len, home, start, ps, sts, ns, _, rfl, hR, hSl, hP, hO, hz, hl0, hh, hg, hv, q2, q3⟩ := h
  refine ⟨_, PSs.nox (pss_cons (ps_set (i := 5) sc_law_rows.nd rfl (Or.inl rfl) (pe_lst pa_nil))
    (pss_cons (ps_set (i := 6) sc_law_rows.nd rfl (Or.inl rfl) (pv 1))
    (pss_cons (ps_set (i := 7) sc_law_rows.nd rfl (Or.inl rfl) (pv 2))
    (pss_cons (ps_for PassesOwn.never rfl (pi_list (pv 4)) (pg_name (i := 8) sc_law_rows.nd rfl (Or.inl rfl))
      (pss_cons (ps_set (i := 9) sc_law_rows.nd rfl (Or.inl rfl) (pe_ix ix_list (pv 3) (pv 8) (fun _ _ => rfl)))
      (pss_cons (ps_set (i := 10) sc_law_rows.nd rfl (Or.inl rfl) (pe_op op_add (pv 7) (pe_call (ok_law_apart T) hr rfl T.m_law_apart T.F_law_apart.kp T.b_law_apart .nil pass0 (pa_cons (pv 0) (pa_cons (pv 6) (pa_cons (pe_ix ix_tup (pv 9) pe_int (fun _ _ => rfl)) pa_nil))))))
      (pss_cons (ps_set (i := 11) sc_law_rows.nd rfl (Or.inl rfl) (pv 10))
      (Evl.pss_cut (ps_if (pt_cmpR op_lt (pv 11) (pe_ix ix_tup (pv 9) pe_int (fun _ _ => rfl)) (nomark _)) (pss_one (ps_set (i := 11) sc_law_rows.nd rfl (Or.inl rfl) (pe_ix ix_tup (pv 9) pe_int (fun _ _ => rfl)))) pss_nil)
      (pss_cons (ps_if (pt_cmpR op_gt (pv 11) (pe_ix ix_tup (pv 9) pe_int (fun _ _ => rfl)) (nomark _)) (pss_one (ps_ret pe_non)) pss_nil)
      (pss_cons (ps_expr (pe_bm PySem.F.plainAttrs_list PySem.F.slot_list_append PySem.F.type_list_append mt_append (pv 5) (pa_cons (pe_tup (pa_cons (pv 10) (pa_cons (pv 11) (pa_cons (pe_op op_add (pv 11) (pe_ix ix_tup (pv 9) pe_int (fun _ _ => rfl))) pa_nil)))) pa_nil)))
      (pss_cons (ps_set (i := 6) sc_law_rows.nd rfl (Or.inl rfl) (pe_ix ix_tup (pv 9) pe_int (fun _ _ => rfl)))
      (pss_one (ps_set (i := 7) sc_law_rows.nd rfl (Or.inl rfl) (pe_op op_add (pv 11) (pe_ix ix_tup (pv 9) pe_int (fun _ _ => rfl)))))))))))))
    (pss_one (ps_ret (pv 5))))))), ?_⟩
  walk_at "go"
  intro R hR0
  have e1 := Evl.Ex.new (o := .lst []) hR0
  have hR1 : (upd H R (.lst [])) R = some (.lst []) := upd_same
  generalize upd H R (.lst []) = H1 at e1 hR1
  walk_at "go"
  refine ⟨⟨_, Evl.ex_l e1 hO⟩, for_list (K := K) (a := o) (xs := ns.map V.int) (fun i σ H' => ∃ (pl lv : Int) (x8 x9 x10 x11 : Option V) (qs : List Addr) (rs : List Row), σ = [some (.ref r), some (.int home), some (.int start), some (.ref sl), some (.ref o), some (.ref R), some (.int pl), some (.int lv), x8, x9, x10, x11] ∧ Ex H H' ∧ H' R = some (.lst (qs.map V.ref)) ∧ RowsR H' qs rs ∧ rs.length = i ∧ onRoad ring len pl ∧ rowsOf ring len sts home start ns = (rowsOf ring len sts pl lv (ns.drop i)).map (fun z => rs ++ z)) ⟨home, start, _, _, _, _, [], [], rfl, e1, hR1, .nil, rfl, hh, (by simp)⟩ (fun i σ H' _ p => ?_) ?_ ?_⟩
  · obtain ⟨pl, lv, x8, x9, x10, x11, qs, rs, rfl, e, p2⟩ := p
    exact Evl.ex_l e hO
  · rintro i y σ H2 hi ⟨pl, lv, x8, x9, x10, x11, qs, rs, rfl, e2, hR2, hq2, hl2, hp2, eq2⟩
    obtain ⟨n, hn, rfl⟩ := map_int_get hi
    have nmem : n ∈ ns := List.mem_of_getElem? hn
    obtain ⟨n0, n1⟩ := hv n nmem
    have dr : ns.drop i = n :: ns.drop (i + 1) := by
      obtain ⟨h1, h2⟩ := List.getElem?_eq_some_iff.mp hn
      rw [List.drop_eq_getElem_cons h1, h2]
    have hi2 : i < 4000 := by
      obtain ⟨h1, _⟩ := List.getElem?_eq_some_iff.mp hn
      omega
    have hSl2 := Evl.ex_l e2 hSl
    have hR3 := Evl.ex_t e2 hR
    obtain ⟨t, ht, hT⟩ := stop_val (hP.ex e2) n0 n1
    have gd := hg _ (stAt_mem n0 n1)
    rw [dr] at eq2
    have b0 : atI (stopV (stAt sts n)) 0 = some (.int (stAt sts n).1) := rfl
    have b1 : atI (stopV (stAt sts n)) 1 = some (.int (stAt sts n).2.1) := rfl
    have b2 : atI (stopV (stAt sts n)) 2 = some (.int (stAt sts n).2.2.1) := rfl
    have b3 : atI (stopV (stAt sts n)) 3 = some (.int (stAt sts n).2.2.2) := rfl
    walk_at "go"
    refine ⟨r, ring, len, pl, (stAt sts n).1, rfl, hR3, ?_⟩
    rw [lawApart_is hl0 hp2 gd.1]
    walk_at "go"
    refine ⟨fun σ' H' => σ' = [some (.ref r), some (.int home), some (.int start), some (.ref sl), some (.ref o), some (.ref R), some (.int pl), some (.int lv), some (.int n), some (.ref t), some (.int (lv + apartOf ring len pl (stAt sts n).1)), some (.int (maxOf (lv + apartOf ring len pl (stAt sts n).1) (stAt sts n).2.1))] ∧ H' = H2, ?_, ?_⟩
    · walk_at "go"
      refine iteB (fun c => ?_) (fun c => ?_)
      · have e : maxOf (lv + apartOf ring len pl (stAt sts n).1) (stAt sts n).2.1 = (stAt sts n).2.1 := if_pos (of_decide_eq_true c)
        rw [e]
        walk_at "go"
        exact rfl
      · have e : maxOf (lv + apartOf ring len pl (stAt sts n).1) (stAt sts n).2.1 = lv + apartOf ring len pl (stAt sts n).1 := if_neg (of_decide_eq_false c)
        rw [e]
        exact ⟨rfl, rfl⟩
    rintro σ' H3 ⟨rfl, rfl⟩
    have mx : (lv + apartOf ring len pl (stAt sts n).1 > (stAt sts n).2.2.1) ↔ ((stAt sts n).2.2.1 < maxOf (lv + apartOf ring len pl (stAt sts n).1) (stAt sts n).2.1) := by
      have g1 := gd.2.2.1
      unfold maxOf
      split <;> omega
    walk_at "go"
    refine iteB (fun c => ?_) (fun c => ?_)
    · refine q2 ?_ _ e2
      rw [eq2, rows_miss (mx.mpr (of_decide_eq_true c))]
      rfl
    · rw [rows_step (fun z => of_decide_eq_false c (mx.mp z))] at eq2
      walk_at "go"
      refine ⟨Or.inl ⟨rfl, _, SqL.of hR2⟩, ?_⟩
      walk_at "go"
      intro p hp
      have nRp : R ≠ p := ne_of_none hR2 hp
      refine ⟨R, _, _, rfl, rfl, (by rw [upd_ne nRp]; exact hR2), Evl.sz_lt (by rw [List.length_map, hq2.len]; omega), ?_⟩
      have hT3 : SqT K (upd (upd H3 p (.tup (rowV (lv + apartOf ring len pl (stAt sts n).1, maxOf (lv + apartOf ring len pl (stAt sts n).1) (stAt sts n).2.1, maxOf (lv + apartOf ring len pl (stAt sts n).1) (stAt sts n).2.1 + (stAt sts n).2.2.2)))) R (.lst (qs.map V.ref ++ [.ref p]))) t (stopV (stAt sts n)) := SqT.at_lst (ys := qs.map V.ref) (by rw [upd_ne nRp]; exact hR2) (Evl.ex_t (Evl.Ex.new hp) hT)
      walk_at "go"
      refine ⟨_, _, _, _, _, _, qs ++ [p], rs ++ [_], rfl, ?_, ?_, ?_, ?_, gd.1, eq2.trans (map_map_app rfl)⟩
      · exact Evl.Ex.mut (e2.trans (Evl.Ex.new hp)) hR0
      · rw [upd_same, List.map_append]
        rfl
      · refine RowsR.at_lst (ys := qs.map V.ref) (by rw [upd_ne nRp]; exact hR2) (RowsR.snoc ?_ (hq2.ex (Evl.Ex.new hp)))
        exact upd_same
      · rw [List.length_append, hl2]
        rfl
  · rintro σ H2 ⟨pl, lv, x8, x9, x10, x11, qs, rs, rfl, e2, hR2, hq2, hl2, hp2, eq2⟩
    rw [List.length_map, List.drop_length] at eq2
    walk_at "go"
    refine q3 rs ?_ R qs H2 e2 hR0 hR2 hq2
    rw [eq2]
    show some (rs ++ []) = some rs
    rw [List.append_nil]
/-! #### _law_alike -/
def rowD (s : Row) : PyData := .tuple [.int s.1, .int s.2.1, .int s.2.2]
theorem row_dp {K : PySem.W.Frag} {H : Hp} {p : Addr} {s : Row} (h : H p = some (.tup (rowV s))) : Dp K H (.ref p) (rowD s) := .tup (SqT.of h) (.cons (.int _) (.cons (.int _) (.cons (.int _) .nil)))
theorem shaped_row (s : Row) : SeqAt.shaped (rowD s) = true := by
  unfold SeqAt.shaped rowD
  simp [PyData.canLay0, PyData.canLayAll0, PyData.depth, PyData.depthAll]
theorem row_val {H : Hp} {qs : List Addr} {rs : List Row} {i : Nat} (h : RowsR H qs rs) (hi : i < rs.length) : ∃ p s, rs[i]? = some s ∧ atI (qs.map V.ref) (i : Int) = some (.ref p) ∧ H p = some (.tup (rowV s)) := by
  have e := List.getElem?_eq_getElem hi
  obtain ⟨p, e2, hp⟩ := h.get e
  exact ⟨p, _, e, atI_nat (by rw [List.getElem?_map, e2]; rfl), hp⟩
def sp_law_alike (K : PySem.W.Frag) : Sp := fun vs H Q _ => ∃ (f g : Addr) (qs gs : List Addr) (rs : List Row), vs = [.ref f, .ref g] ∧ H f = some (.lst (qs.map V.ref)) ∧ H g = some (.lst (gs.map V.ref)) ∧ RowsR H qs rs ∧ RowsR H gs rs ∧ rs.length ≤ 4000 ∧ Q (.bl true) H
set_option maxHeartbeats 4000000 in
theorem ok_law_alike (T : Txt K mg D) : FnOk P w K mg base CX0 2 (He.ga K "_law_alike") (D "_law_alike") ["_law_found", "_law_due"] (sp_law_alike K) := by
  refine T.F_law_alike.ok sc_law_alike (fun vs H Q E h => ?_) (fun cdv A outer s H vs Q E hr h => ?_)
  · obtain ⟨_, _, _, _, _, rfl, _⟩ := h
    rfl
  obtain ⟨f, g, qs, gs, rs, rfl, hf, hg, hq, hr_, hz, q⟩ := h
  refine ⟨_, PSs.nox (pss_cons (ps_if (PW.pt (pw_or (pt_not (pt_val (pe_callB call_isi rfl T.m_isinstance (by decide +kernel) (pa_cons (pv 0) (pa_cons (pe_bltn (v := V.ty "list") (u := Value.type "list") rfl T.m_list (by decide +kernel) rfl) pa_nil))))) (pw_or1 (pt_cmpR op_ne (pe_callB call_len_seq rfl T.m_len PySem.boot_len (pa_cons (pv 0) pa_nil)) (pe_callB call_len_seq rfl T.m_len PySem.boot_len (pa_cons (pv 1) pa_nil)) (nomark _))))) (pss_one (ps_ret pe_bl)) pss_nil)
    (pss_cons (ps_for PassesOwn.never rfl (pi_range1 rfl T.m_range (pa_cons (pe_callB call_len_seq rfl T.m_len PySem.boot_len (pa_cons (pv 1) pa_nil)) pa_nil)) (pg_name (i := 2) sc_law_alike.nd rfl (Or.inl rfl))
      (pss_cons (ps_if (PW.pt (pw_or (pt_not (pt_val (pe_callB call_isi rfl T.m_isinstance (by decide +kernel) (pa_cons (pe_ix ix_list (pv 0) (pv 2) (fun _ _ => rfl)) (pa_cons (pe_bltn (v := V.ty "tuple") (u := Value.type "tuple") rfl T.m_tuple (by decide +kernel) rfl) pa_nil))))) (pw_or1 (pt_cmpR (op_neD hr.units) (pe_ix ix_list (pv 0) (pv 2) (fun _ _ => rfl)) (pe_ix ix_list (pv 1) (pv 2) (fun _ _ => rfl)) (nomark _))))) (pss_one (ps_ret pe_bl)) pss_nil)
      (pss_one (ps_for PassesOwn.never rfl (pi_tup (pe_ix ix_list (pv 0) (pv 2) (fun _ _ => rfl))) (pg_name (i := 3) sc_law_alike.nd rfl (Or.inl rfl))
        (pss_one (ps_if (pt_not (pt_val (pe_call (ok_law_whole T) hr rfl T.m_law_whole T.F_law_whole.kp T.b_law_whole .nil pass0 (pa_cons (pv 3) pa_nil)))) (pss_one (ps_ret pe_bl)) pss_nil))))))
    (pss_one (ps_ret pe_bl)))), ?_⟩
  have lq : (qs.map V.ref).length = rs.length := by rw [List.length_map]; exact hq.len
  have lg : (gs.map V.ref).length = rs.length := by rw [List.length_map]; exact hr_.len
  walk_at "go"
  refine ⟨_, _, .type "list", .type "list", true, rfl, .ty _, .base (.lst hf), rfl, ?_⟩
  walk_at "go"
  rw [lq, lg]
  refine iteFb (neSelf rfl) ?_
  walk_at "go"
  refine for_range (lo := 0) (n := (gs.map V.ref).length) (fun i σ H' => ∃ x y, σ = [some (.ref f), some (.ref g), x, y] ∧ H' = H) ⟨_, _, rfl, rfl⟩ ?_ ?_
  · rintro i σ H' hi ⟨x, y, rfl, rfl⟩
    rw [lg] at hi
    obtain ⟨p, s1, hs, ap, hp⟩ := row_val hq hi
    obtain ⟨p2, s2, hs2, ap2, hp2⟩ := row_val hr_ hi
    obtain rfl : s1 = s2 := Option.some.inj (hs.symm.trans hs2)
    have z0 : (0 + (i : Int)) = i := Int.zero_add _
    rw [← z0] at ap ap2
    walk_at "go"
    refine ⟨_, _, .type "tuple", .type "tuple", true, rfl, .ty _, .base (.tup hp), rfl, ?_⟩
    walk_at "go"
    refine ⟨rowD s1, rowD s1, row_dp hp, row_dp hp2, shaped_row _, shaped_row _, ?_⟩
    rw [eqv_self (shaped_row _)]
    walk_at "go"
    refine ⟨⟨_, SqT.of hp⟩, for_tup (K := K) (a := p) (xs := rowV s1) (fun j σ H2 => ∃ x2 y2, σ = [some (.ref f), some (.ref g), x2, y2] ∧ H2 = H') ⟨_, _, rfl, rfl⟩ (fun j σ H2 _ z => by obtain ⟨_, _, _, e⟩ := z; rw [e]; exact SqT.of hp) ?_ ?_⟩
    · rintro j y2 σ H2 hj ⟨x3, y3, rfl, rfl⟩
      obtain ⟨k, rfl⟩ : ∃ k : Int, y2 = .int k := by
        have m := List.mem_of_getElem? hj
        rcases List.mem_cons.mp m with e | m
        · exact ⟨_, e⟩
        rcases List.mem_cons.mp m with e | m
        · exact ⟨_, e⟩
        rcases List.mem_cons.mp m with e | m
        · exact ⟨_, e⟩
        cases m
      walk_at "go"
      refine Or.inl ⟨k, rfl, ?_⟩
      walk_at "go"
      exact rfl
    · rintro σ H2 ⟨x3, y3, rfl, rfl⟩
      exact ⟨_, _, rfl, rfl⟩
  · rintro σ H' ⟨x, y, rfl, rfl⟩
    walk_at "go"
    exact q
/-! #### check_day -/
def sp_check_day (K : PySem.W.Frag) : Sp := fun vs H Q E => ∃ (r l : Addr) (w : Str) (len home start : Int) (ps : List Addr) (sts : List Stp) (_u : Unit), vs = [.ref r, .int home, .int start, .ref l] ∧ SqT K H r [.str w, .int len] ∧ SqL K H l (ps.map V.ref) ∧ StopsR K H ps sts ∧
  (dayFlt w len home start sts = none → ∀ H', Ex H H' → Q .non H') ∧ (∀ f, dayFlt w len home start sts = some f → ∀ H', Ex H H' → E (.ref (fltC K f)) none H')
set_option maxHeartbeats 4000000 in
theorem ok_check_day (T : Txt K mg D) : FnOk P w K mg base (L2.CX P w) 3 (He.ga K "check_day") (D "check_day") ["road", "home", "start", "stops"] (sp_check_day K) := by
  refine T.F_check_day.ok sc_check_day (fun vs H Q E h => ?_) (fun cdv A outer s H vs Q E hr h => ?_)
  · obtain ⟨_, _, _, _, _, _, _, _, _, rfl, _⟩ := h
    rfl
  obtain ⟨r, l, w', len, home, start, ps, sts, _, rfl, hR, hL, hP, q1, q2⟩ := h
  refine ⟨_, (pss_cons (ps_if (pt_not (pt_val (pe_call (ok_is_road T) (hr.mono (by decide)) rfl T.m_is_road T.F_is_road.kp T.b_is_road .nil pass0 (pa_cons (pv 0) pa_nil)))) (pss_one (ps_raise rfl (takes_of rfl rfl rfl rfl) (pmk_own PySem.F.excBase_ValueError T.x_BadRoad T.m_BadRoad T.kp_BadRoad (raises_own T.sb_BadRoad T.ty_BadRoad) (by exact rfl)))) pss_nil)
    (pss_cons (ps_if (pt_not (pt_val (pe_call (ok_has_place T) (hr.mono (by decide)) rfl T.m_has_place T.F_has_place.kp T.b_has_place .nil pass0 (pa_cons (pv 0) (pa_cons (pv 1) pa_nil))))) (pss_one (ps_raise rfl (takes_of rfl rfl rfl rfl) (pmk_own PySem.F.excBase_ValueError T.x_OffRoad T.m_OffRoad T.kp_OffRoad (raises_own T.sb_OffRoad T.ty_OffRoad) (by exact rfl)))) pss_nil)
    (pss_cons (ps_if (pt_not (pt_val (pe_call (ok_is_time T) (hr.mono (by decide)) rfl T.m_is_time T.F_is_time.kp T.b_is_time .nil pass0 (pa_cons (pv 2) pa_nil)))) (pss_one (ps_raise rfl (takes_of rfl rfl rfl rfl) (pmk_own PySem.F.excBase_ValueError T.x_BadTime T.m_BadTime T.kp_BadTime (raises_own T.sb_BadTime T.ty_BadTime) (by exact rfl)))) pss_nil)
    (pss_cons (ps_if (pt_cmpR op_gt (pe_callB call_len_seq rfl T.m_len PySem.boot_len (pa_cons (pv 3) pa_nil)) (pe_globE rfl T.c_MOST_STOPS) (nomark _)) (pss_one (ps_raise rfl (takes_of rfl rfl rfl rfl) (pmk_own PySem.F.excBase_ValueError T.x_TooMany T.m_TooMany T.kp_TooMany (raises_own T.sb_TooMany T.ty_TooMany) (by exact rfl)))) pss_nil)
    (pss_one (ps_for (passes_of rfl) rfl (pi_list (pv 3)) (pg_name (i := 4) sc_check_day.nd rfl (Or.inl rfl))
      (pss_one (ps_expr (pe_call (ok_check_stop T) hr rfl T.m_check_stop T.F_check_stop.kp T.b_check_stop .nil (passes_call (E := E) (takes_of rfl rfl rfl rfl) (fun _ _ _ _ h => h)) (pa_cons (pv 0) (pa_cons (pv 4) pa_nil))))))))))), ?_⟩
  have fault : ∀ f, dayFlt w' len home start sts = some f → ∀ H', Ex H H' → E (.ref (fltC K f)) none H' := q2
  walk_at "go"
  refine ⟨r, w', len, rfl, hR, fun H1 e1 => ?_⟩
  walk_at "go"
  refine iteB (fun c => ?_) (fun c => ?_)
  · refine fault .road ?_ H1 e1
    unfold dayFlt
    rw [if_pos]
    intro z
    rw [decide_eq_true z] at c
    exact absurd c (by decide)
  have c1 : isRoad w' len := by
    by_cases z : isRoad w' len
    · exact z
    · rw [decide_eq_false z] at c; exact absurd c (by decide)
  obtain ⟨hw, hl⟩ := isRoad_word c1
  have hR1 : SqT K H1 r (roadV (decide (w' = "ring")) len) := by
    have e : roadV (decide (w' = "ring")) len = [V.str w', V.int len] := by unfold roadV; rw [← hw]
    rw [e]
    exact Evl.ex_t e1 hR
  walk_at "go"
  refine ⟨r, _, len, home, rfl, hR1, ?_⟩
  walk_at "go"
  refine iteB (fun c => ?_) (fun c => ?_)
  · refine fault .off ?_ H1 e1
    unfold dayFlt
    rw [if_neg (fun z => z c1), if_pos]
    intro z
    rw [decide_eq_true (show 0 ≤ home ∧ home < placesOf (decide (w' = "ring")) len from z)] at c
    exact absurd c (by decide)
  have c2 : onRoad (decide (w' = "ring")) len home := by
    by_cases z : onRoad (decide (w' = "ring")) len home
    · exact z
    · rw [decide_eq_false (show ¬ (0 ≤ home ∧ home < placesOf (decide (w' = "ring")) len) from z)] at c; exact absurd c (by decide)
  walk_at "go"
  refine iteB (fun c => ?_) (fun c => ?_)
  · refine fault .time ?_ H1 e1
    unfold dayFlt
    rw [if_neg (fun z => z c1), if_neg (fun z => z c2), if_pos]
    intro z
    rw [decide_eq_true z] at c
    exact absurd c (by decide)
  have c3 : isTime start := by
    by_cases z : isTime start
    · exact z
    · rw [decide_eq_false z] at c; exact absurd c (by decide)
  walk_at "go"
  refine ⟨l, _, rfl, Or.inl (Evl.ex_l e1 hL), ?_⟩
  walk_at "go"
  have hlen : (ps.map V.ref).length = sts.length := by rw [List.length_map]; exact hP.len
  refine iteB (fun c => ?_) (fun c => ?_)
  · refine fault .many ?_ H1 e1
    have c' := of_decide_eq_true c
    unfold dayFlt
    rw [if_neg (fun z => z c1), if_neg (fun z => z c2), if_neg (fun z => z c3), if_pos (by omega)]
  have c4 : ¬ 7 < sts.length := by
    have c' := of_decide_eq_false c
    omega
  have rest : dayFlt w' len home start sts = stopsFlt (decide (w' = "ring")) len sts := by
    unfold dayFlt
    rw [if_neg (fun z => z c1), if_neg (fun z => z c2), if_neg (fun z => z c3), if_neg c4]
  rw [rest] at q1 fault
  walk_at "go"
  refine ⟨⟨_, Evl.ex_l e1 hL⟩, for_list (K := K) (a := l) (xs := ps.map V.ref) (fun i σ H' => (∃ x, σ = [some (.ref r), some (.int home), some (.int start), some (.ref l), x]) ∧ H' = H1 ∧ stopsFlt (decide (w' = "ring")) len sts = stopsFlt (decide (w' = "ring")) len (sts.drop i)) ⟨⟨_, rfl⟩, rfl, rfl⟩ (fun i σ H' _ p => by rw [p.2.1]; exact Evl.ex_l e1 hL) ?_ ?_⟩
  · rintro i y σ H' hi ⟨⟨x, rfl⟩, rfl, p⟩
    obtain ⟨a, ha, rfl⟩ := map_ref_get hi
    obtain ⟨st, hst, hS⟩ := (hP.ex e1).get ha
    have dr : sts.drop i = st :: sts.drop (i + 1) := by
      obtain ⟨h1, h2⟩ := List.getElem?_eq_some_iff.mp hst
      rw [List.drop_eq_getElem_cons h1, h2]
    walk_at "go"
    refine ⟨r, a, _, len, st, rfl, hR1, hS, fun z => ?_, fun f z => ?_⟩
    · refine ⟨⟨_, rfl⟩, rfl, ?_⟩
      rw [p, dr]
      show (match stopFlt (decide (w' = "ring")) len st with | some f => some f | none => stopsFlt (decide (w' = "ring")) len (sts.drop (i + 1))) = _
      rw [z]
    · refine fault f ?_ _ e1
      rw [p, dr]
      show (match stopFlt (decide (w' = "ring")) len st with | some f => some f | none => stopsFlt (decide (w' = "ring")) len (sts.drop (i + 1))) = _
      rw [z]
  · rintro σ H' ⟨_, rfl, p⟩
    refine q1 ?_ _ e1
    rw [p, hlen, List.drop_length]
    rfl
/-! #### visit -/
/-- how the van goes on to a stop; none: it has closed -/
def goOn (ring : Bool) (len pl t : Int) (s : Stp) : Option Row := if t + apartOf ring len pl s.1 > s.2.2.1 then none else some (t + apartOf ring len pl s.1, maxOf (t + apartOf ring len pl s.1) s.2.1, maxOf (t + apartOf ring len pl s.1) s.2.1 + s.2.2.2)
theorem rows_go {ring : Bool} {len pl t n : Int} {sts : List Stp} {r : List Int} : rowsOf ring len sts pl t (n :: r) = (goOn ring len pl t (stAt sts n)).bind fun x => (rowsOf ring len sts (stAt sts n).1 x.2.2 r).map fun rs => x :: rs := by
  unfold goOn
  by_cases c : t + apartOf ring len pl (stAt sts n).1 > (stAt sts n).2.2.1
  · rw [rows_miss c, if_pos c]; rfl
  · rw [rows_step c, if_neg c]; rfl
def sp_visit (K : PySem.W.Frag) : Sp := fun vs H Q _ => ∃ (d r l : Addr) (ring : Bool) (len home start pl lv n : Int) (ps : List Addr) (sts : List Stp) (_u _v : Unit), vs = [.ref d, .int pl, .int lv, .int n] ∧ DayAt K H d r l (wordOf ring) len home start ps sts ∧ 0 < len ∧ 0 ≤ n ∧ n < sts.length ∧
  (goOn ring len pl lv (stAt sts n) = none → Q .non H) ∧
  (∀ x, goOn ring len pl lv (stAt sts n) = some x → ∀ p, H p = none → Q (.ref p) (upd H p (.tup (rowV x))))
set_option maxHeartbeats 4000000 in
theorem ok_visit (T : Txt K mg D) : FnOk P w K mg base CX0 3 (He.ga K "visit") (D "visit") ["day", "place", "leaves", "number"] (sp_visit K) := by
  refine T.F_visit.ok sc_visit (fun vs H Q E h => ?_) (fun cdv A outer s H vs Q E hr h => ?_)
  · obtain ⟨_, _, _, _, _, _, _, _, _, _, _, _, _, _, rfl, _⟩ := h
    rfl
  obtain ⟨d, r, l, ring, len, home, start, pl, lv, n, ps, sts, _, _, rfl, hD, hl0, n0, n1, q1, q2⟩ := h
  refine ⟨_, PSs.nox (pss_cons (ps_asg (pe_ix ix_list (pe_fld (pv 0) rfl) (pv 3) (fun _ _ => rfl)) (pg_tup rfl (pgs_cons (pg_name (i := 4) sc_visit.nd rfl (Or.inl rfl)) (pgs_cons (pg_name (i := 5) sc_visit.nd rfl (Or.inl rfl)) (pgs_cons (pg_name (i := 6) sc_visit.nd rfl (Or.inl rfl)) (pgs_cons (pg_name (i := 7) sc_visit.nd rfl (Or.inl rfl)) pgs_nil))))))
    (pss_cons (ps_set (i := 8) sc_visit.nd rfl (Or.inl rfl) (pe_op op_add (pv 2) (pe_call (ok_apart T) hr rfl T.m_apart T.F_apart.kp T.b_apart .nil pass0 (pa_cons (pe_fld (pv 0) rfl) (pa_cons (pv 1) (pa_cons (pv 4) pa_nil))))))
    (pss_cons (ps_if (pt_cmpR op_gt (pv 8) (pv 6) (nomark _)) (pss_one (ps_ret pe_non)) pss_nil)
    (pss_cons (ps_set (i := 9) sc_visit.nd rfl (Or.inl rfl) (pe_callB (call_max2 rfl) rfl T.m_max (by decide +kernel) (pa_cons (pv 8) (pa_cons (pv 5) pa_nil))))
    (pss_one (ps_ret (pe_tup (pa_cons (pv 8) (pa_cons (pv 9) (pa_cons (pe_op op_add (pv 9) (pv 7)) pa_nil)))))))))), ?_⟩
  obtain ⟨⟨dx, m1⟩, m2, m3, m4⟩ := id hD
  obtain ⟨t, ht, hT⟩ := stop_val m4 n0 n1
  walk_at "go"
  refine ⟨d, _, dx, _, _, rfl, m1, T.cl_Day, T.na_Day_stops, rfl, ?_⟩
  walk_at "go"
  refine ⟨d, _, dx, _, _, rfl, m1, T.cl_Day, T.na_Day_road, rfl, ?_⟩
  walk_at "go"
  refine ⟨r, ring, len, pl, (stAt sts n).1, rfl, m2, hl0, ?_⟩
  walk_at "go"
  refine iteB (fun c => ?_) (fun c => ?_)
  · exact q1 (if_pos (of_decide_eq_true c))
  · walk_at "go"
    intro p hp
    exact q2 _ (if_neg (of_decide_eq_false c)) p hp
/-! #### _law_stop_by -/
def sp_law_stop_by (K : PySem.W.Frag) : Sp := fun vs H Q _ => ∃ (r a : Addr) (ring : Bool) (len start k : Int) (ns : List Int), vs = [.ref r, .int start, .ref a, .int k] ∧ SqT K H r (roadV ring len) ∧ 1 ≤ len ∧ len ≤ 1000000000 ∧ 0 ≤ start ∧ start ≤ 1000000000000 ∧ SqL K H a (ns.map V.int) ∧ ns.length ≤ 63 ∧
  ∀ s p H', goodStop ring len s → Ex H H' → H p = none → H' p = some (.tup (stopV s)) → Q (.ref p) H'
set_option maxHeartbeats 4000000 in
theorem ok_law_stop_by (T : Txt K mg D) : FnOk P w K mg base CX0 3 (He.ga K "_law_stop_by") (D "_law_stop_by") ["_law_road", "_law_start", "_law_script", "_law_k"] (sp_law_stop_by K) := by
  refine T.F_law_stop_by.ok sc_law_stop_by (fun vs H Q E h => ?_) (fun cdv A outer s H vs Q E hr h => ?_)
  · obtain ⟨_, _, _, _, _, _, _, rfl, _⟩ := h
    rfl
  obtain ⟨r, a, ring, len, start, k, ns, rfl, hR, l1, l2, s0, s1, hS, hn, q⟩ := h
  refine ⟨_, PSs.nox (pss_cons (ps_set (i := 4) sc_law_stop_by.nd rfl (Or.inl rfl) (pe_call (ok_law_place_by T) hr rfl T.m_law_place_by T.F_law_place_by.kp T.b_law_place_by .nil pass0 (pa_cons (pv 0) (pa_cons (pe_call (ok_law_cell_at T) (hr.mono (by decide)) rfl T.m_law_cell_at T.F_law_cell_at.kp T.b_law_cell_at .nil pass0 (pa_cons (pv 2) (pa_cons (pv 3) pa_nil))) pa_nil))))
    (pss_cons (ps_set (i := 5) sc_law_stop_by.nd rfl (Or.inl rfl) (pe_call (ok_law_cell_at T) (hr.mono (by decide)) rfl T.m_law_cell_at T.F_law_cell_at.kp T.b_law_cell_at .nil pass0 (pa_cons (pv 2) (pa_cons (pe_op op_add (pv 3) pe_int) pa_nil))))
    (pss_cons (ps_set (i := 6) sc_law_stop_by.nd rfl (Or.inl rfl) (pe_op op_add (pv 1) (pe_op op_mod (pe_op op_fdiv (pv 5) pe_int) (pe_op op_add (pe_op op_mul pe_int (pe_ix ix_tup (pv 0) pe_int (fun _ _ => rfl))) pe_int))))
    (Evl.pss_cut (ps_if (pt_cmpR op_eq (pe_op op_mod (pv 5) pe_int) pe_int (nomark _)) (pss_one (ps_set (i := 6) sc_law_stop_by.nd rfl (Or.inl rfl) pe_int)) pss_nil)
    (Evl.pss_cut (ps_if (pt_cmpR op_eq (pe_op op_mod (pv 5) pe_int) pe_int (nomark _)) (pss_one (ps_set (i := 6) sc_law_stop_by.nd rfl (Or.inl rfl) (pe_callB (call_max2 rfl) rfl T.m_max (by decide +kernel) (pa_cons pe_int (pa_cons (pe_op op_sub (pv 1) (pe_op op_mod (pe_op op_fdiv (pv 5) pe_int) (pe_op op_add (pe_ix ix_tup (pv 0) pe_int (fun _ _ => rfl)) pe_int))) pa_nil))))) pss_nil)
    (Evl.pss_cut (ps_if (pt_cmpR op_eq (pe_op op_mod (pv 5) pe_int) pe_int (nomark _)) (pss_one (ps_set (i := 6) sc_law_stop_by.nd rfl (Or.inl rfl) (pe_op op_add (pv 1) (pe_call (ok_law_wide T) (hr.mono (by decide)) rfl T.m_law_wide T.F_law_wide.kp T.b_law_wide .nil pass0 (pa_cons (pe_op op_fdiv (pv 5) pe_int) (pa_cons (pe_ix ix_list (pe_lst (pa_cons (pe_op op_pow pe_int pe_int) (pa_cons (pe_op op_pow pe_int pe_int) pa_nil))) (pe_op op_mod (pe_op op_fdiv (pv 5) pe_int) pe_int) (fun _ _ => rfl)) pa_nil)))))) pss_nil)
    (pss_cons (ps_set (i := 6) sc_law_stop_by.nd rfl (Or.inl rfl) (pe_callB (call_min2 rfl) rfl T.m_min (by decide +kernel) (pa_cons (pv 6) (pa_cons (pe_op op_pow pe_int pe_int) pa_nil))))
    (pss_cons (ps_set (i := 5) sc_law_stop_by.nd rfl (Or.inl rfl) (pe_call (ok_law_cell_at T) (hr.mono (by decide)) rfl T.m_law_cell_at T.F_law_cell_at.kp T.b_law_cell_at .nil pass0 (pa_cons (pv 2) (pa_cons (pe_op op_add (pv 3) pe_int) pa_nil))))
    (pss_cons (ps_set (i := 7) sc_law_stop_by.nd rfl (Or.inl rfl) (pe_op op_add (pe_op op_add (pe_callB (call_max2 rfl) rfl T.m_max (by decide +kernel) (pa_cons (pv 6) (pa_cons (pv 1) pa_nil))) (pe_op op_mul (pe_ix ix_list (pe_lst (pa_cons pe_int (pa_cons pe_int (pa_cons pe_int (pa_cons pe_int pa_nil))))) (pe_op op_mod (pv 5) pe_int) (fun _ _ => rfl)) (pe_ix ix_tup (pv 0) pe_int (fun _ _ => rfl)))) (pe_op op_mod (pe_op op_fdiv (pv 5) pe_int) (pe_op op_add (pe_ix ix_tup (pv 0) pe_int (fun _ _ => rfl)) pe_int))))
    (Evl.pss_cut (ps_if (pt_cmpR op_eq (pe_op op_mod (pv 5) pe_int) pe_int (nomark _)) (pss_one (ps_set (i := 7) sc_law_stop_by.nd rfl (Or.inl rfl) (pv 6))) pss_nil)
    (Evl.pss_cut (ps_if (pt_cmpR op_eq (pe_op op_mod (pv 5) pe_int) pe_int (nomark _)) (pss_one (ps_set (i := 7) sc_law_stop_by.nd rfl (Or.inl rfl) (pe_ix ix_list (pe_lst (pa_cons (pe_op op_pow pe_int pe_int) (pa_cons (pe_op op_add (pe_callB (call_max2 rfl) rfl T.m_max (by decide +kernel) (pa_cons (pv 6) (pa_cons (pv 1) pa_nil))) (pe_call (ok_law_wide T) (hr.mono (by decide)) rfl T.m_law_wide T.F_law_wide.kp T.b_law_wide .nil pass0 (pa_cons (pe_op op_fdiv (pv 5) pe_int) (pa_cons (pe_op op_pow pe_int pe_int) pa_nil)))) pa_nil))) (pe_op op_mod (pe_op op_fdiv (pv 5) pe_int) pe_int) (fun _ _ => rfl)))) pss_nil)
    (pss_cons (ps_set (i := 7) sc_law_stop_by.nd rfl (Or.inl rfl) (pe_callB (call_min2 rfl) rfl T.m_min (by decide +kernel) (pa_cons (pv 7) (pa_cons (pe_op op_pow pe_int pe_int) pa_nil))))
    (pss_cons (ps_set (i := 5) sc_law_stop_by.nd rfl (Or.inl rfl) (pe_call (ok_law_cell_at T) (hr.mono (by decide)) rfl T.m_law_cell_at T.F_law_cell_at.kp T.b_law_cell_at .nil pass0 (pa_cons (pv 2) (pa_cons (pe_op op_add (pv 3) pe_int) pa_nil))))
    (pss_cons (ps_set (i := 8) sc_law_stop_by.nd rfl (Or.inl rfl) (pe_op op_mod (pe_op op_fdiv (pv 5) pe_int) (pe_op op_add (pe_op op_fdiv (pe_ix ix_tup (pv 0) pe_int (fun _ _ => rfl)) pe_int) pe_int)))
    (Evl.pss_cut (ps_if (pt_cmpR op_eq (pe_op op_mod (pv 5) pe_int) pe_int (nomark _)) (pss_one (ps_set (i := 8) sc_law_stop_by.nd rfl (Or.inl rfl) pe_int)) pss_nil)
    (Evl.pss_cut (ps_if (pt_cmpR op_eq (pe_op op_mod (pv 5) pe_int) pe_int (nomark _)) (pss_one (ps_set (i := 8) sc_law_stop_by.nd rfl (Or.inl rfl) (pe_call (ok_law_wide T) (hr.mono (by decide)) rfl T.m_law_wide T.F_law_wide.kp T.b_law_wide .nil pass0 (pa_cons (pe_op op_fdiv (pv 5) pe_int) (pa_cons (pe_op op_add (pe_op op_pow pe_int pe_int) pe_int) pa_nil))))) pss_nil)
    (pss_one (ps_ret (pe_tup (pa_cons (pv 4) (pa_cons (pv 6) (pa_cons (pv 7) (pa_cons (pv 8) pa_nil))))))))))))))))))))))), ?_⟩
  have h12 : (10 : Int) ^ (12 : Int).toNat = 1000000000000 := by decide +kernel
  have h9 : (10 : Int) ^ (9 : Int).toNat = 1000000000 := by decide +kernel
  walk_at "go"
  refine ⟨a, ns, k, rfl, hS, hn, fun c0 => ?_⟩
  walk_at "go"
  refine ⟨r, ring, len, c0, rfl, hR, l1, fun pl H1 p0 p1 e1 => ?_⟩
  walk_at "go"
  refine ⟨a, ns, k + 1, rfl, Evl.ex_l e1 hS, hn, fun c1 => ?_⟩
  have hR1 : SqT K H1 r (roadV ring len) := Evl.ex_t e1 hR
  have hS1 : SqL K H1 a (ns.map V.int) := Evl.ex_l e1 hS
  walk_at "go"
  have m1 := Int.emod_nonneg (c1 / 4) (show 3 * len + 2 ≠ 0 by omega)
  have m2 := Int.emod_nonneg (c1 / 4) (show len + 1 ≠ 0 by omega)
  refine ⟨fun σ' H' => ∃ o, 0 ≤ o ∧ σ' = [some (V.ref r), some (V.int start), some (V.ref a), some (V.int k), some (V.int pl), some (V.int c1), some (V.int o), none, none] ∧ H' = H1, ?_, ?_⟩
  · walk_at "go"
    refine iteB (fun b => ?_) (fun b => ?_)
    · exact ⟨0, by decide, rfl, rfl⟩
    · exact ⟨_, by omega, rfl, rfl⟩
  rintro σ' H2 ⟨o, o0, rfl, rfl⟩
  refine ⟨fun σ' H' => ∃ o, 0 ≤ o ∧ σ' = [some (V.ref r), some (V.int start), some (V.ref a), some (V.int k), some (V.int pl), some (V.int c1), some (V.int o), none, none] ∧ H' = H2, ?_, ?_⟩
  · walk_at "go"
    refine iteB (fun b => ?_) (fun b => ?_)
    · walk_at "go"
      refine ⟨_, ?_, rfl, rfl⟩
      split <;> omega
    · exact ⟨o, o0, rfl, rfl⟩
  rintro σ' H3 ⟨o, o0, rfl, rfl⟩
  refine ⟨fun σ' H' => ∃ o, 0 ≤ o ∧ σ' = [some (V.ref r), some (V.int start), some (V.ref a), some (V.int k), some (V.int pl), some (V.int c1), some (V.int o), none, none] ∧ Ex H H', ?_, ?_⟩
  · walk_at "go"
    refine iteB (fun b => ?_) (fun b => ?_)
    · walk_at "go"
      intro p hp
      walk_at "go"
      obtain ⟨v, hv, hv2⟩ := at2 (a := 10 ^ (9 : Int).toNat) (b := 10 ^ (12 : Int).toNat) (i := c1 / 16 % 2) (by omega) (by omega)
      refine ⟨p, _, _, _, rfl, rfl, SqL.of upd_same, hv, ?_⟩
      walk_at "go"
      intro z z0 z1
      walk_at "go"
      exact ⟨_, by omega, rfl, e1.trans (Evl.Ex.new hp)⟩
    · exact ⟨o, o0, rfl, e1⟩
  rintro σ' H4 ⟨o, o0, rfl, e4⟩
  have hR4 : SqT K H4 r (roadV ring len) := Evl.ex_t e4 hR
  walk_at "go"
  have ob : ∃ o', (if 10 ^ (12 : Int).toNat < o then 10 ^ (12 : Int).toNat else o) = o' ∧ 0 ≤ o' ∧ o' ≤ 1000000000000 := ⟨_, rfl, by split <;> omega, by split <;> omega⟩
  obtain ⟨o', oe, o0', o1'⟩ := ob
  rw [oe]
  refine ⟨a, ns, k + 2, rfl, Evl.ex_l e4 hS, hn, fun c2 => ?_⟩
  walk_at "go"
  intro p hp
  walk_at "go"
  obtain ⟨v, hv, hv2⟩ := at4 (a := 0) (b := 3) (c := 9) (d := 20) (i := c2 % 4) (by omega) (by omega)
  refine ⟨p, _, _, _, rfl, rfl, SqL.of upd_same, hv, ?_⟩
  have e5 : Ex H (upd H4 p (.lst [V.int 0, V.int 3, V.int 9, V.int 20])) := e4.trans (Evl.Ex.new hp)
  have hR5 : SqT K (upd H4 p (.lst [V.int 0, V.int 3, V.int 9, V.int 20])) r (roadV ring len) := Evl.ex_t e5 hR
  walk_at "go"
  refine And.intro (show CMul v len from Or.inl ⟨by omega, by omega⟩) ?_
  walk_at "go"
  have hv0 : 0 ≤ v * len := by rcases hv2 with rfl | rfl | rfl | rfl <;> omega
  have m3 := Int.emod_nonneg (c2 / 4) (show len + 2 ≠ 0 by omega)
  refine ⟨fun σ' H' => ∃ c, o' ≤ c ∧ σ' = [some (V.ref r), some (V.int start), some (V.ref a), some (V.int k), some (V.int pl), some (V.int c2), some (V.int o'), some (V.int c), none] ∧ Ex H H', ?_, ?_⟩
  · walk_at "go"
    refine iteB (fun b => ?_) (fun b => ?_)
    · walk_at "go"
      exact ⟨o', Int.le_refl _, rfl, e5⟩
    · refine ⟨_, ?_, rfl, e5⟩
      show o' ≤ (if start > o' then start else o') + v * len + c2 / 4 % (len + 2)
      split <;> omega
  rintro σ' H5 ⟨c, hc, rfl, e6⟩
  refine ⟨fun σ' H' => ∃ c, o' ≤ c ∧ σ' = [some (V.ref r), some (V.int start), some (V.ref a), some (V.int k), some (V.int pl), some (V.int c2), some (V.int o'), some (V.int c), none] ∧ Ex H H', ?_, ?_⟩
  · walk_at "go"
    refine iteB (fun b => ?_) (fun b => ?_)
    · walk_at "go"
      intro z z0 z1
      walk_at "go"
      intro p2 hp2
      walk_at "go"
      obtain ⟨y, hy, hy2⟩ := at2 (a := 10 ^ (12 : Int).toNat) (b := (if start > o' then start else o') + z) (i := c2 / 9 % 2) (by omega) (by omega)
      refine ⟨p2, _, _, _, rfl, rfl, SqL.of upd_same, hy, ?_⟩
      refine ⟨y, ?_, rfl, e6.trans (Evl.Ex.new hp2)⟩
      rcases hy2 with rfl | rfl
      · omega
      · split <;> omega
    · exact ⟨c, hc, rfl, e6⟩
  rintro σ' H6 ⟨c, hc, rfl, e7⟩
  walk_at "go"
  have cb : ∃ c', (if 10 ^ (12 : Int).toNat < c then 10 ^ (12 : Int).toNat else c) = c' ∧ o' ≤ c' ∧ c' ≤ 1000000000000 := ⟨_, rfl, by split <;> omega, by split <;> omega⟩
  obtain ⟨c', ce, c0', c1'⟩ := cb
  rw [ce]
  refine ⟨a, ns, k + 3, rfl, Evl.ex_l e7 hS, hn, fun c3 => ?_⟩
  have hR7 : SqT K H6 r (roadV ring len) := Evl.ex_t e7 hR
  walk_at "go"
  have m4 := Int.emod_nonneg (c3 / 3) (show len / 3 + 2 ≠ 0 by omega)
  have m5 := Int.emod_lt_of_pos (c3 / 3) (show 0 < len / 3 + 2 by omega)
  refine ⟨fun σ' H' => ∃ y, 0 ≤ y ∧ y ≤ 1000000000000 ∧ σ' = [some (V.ref r), some (V.int start), some (V.ref a), some (V.int k), some (V.int pl), some (V.int c3), some (V.int o'), some (V.int c'), some (V.int y)] ∧ H' = H6, ?_, ?_⟩
  · walk_at "go"
    refine iteB (fun b => ?_) (fun b => ?_)
    · exact ⟨0, by decide, by decide, rfl, rfl⟩
    · exact ⟨_, by omega, by omega, rfl, rfl⟩
  rintro σ' H7 ⟨y, y0, y1, rfl, rfl⟩
  refine ⟨fun σ' H' => ∃ y, 0 ≤ y ∧ y ≤ 1000000000000 ∧ σ' = [some (V.ref r), some (V.int start), some (V.ref a), some (V.int k), some (V.int pl), some (V.int c3), some (V.int o'), some (V.int c'), some (V.int y)] ∧ H' = H7, ?_, ?_⟩
  · walk_at "go"
    refine iteB (fun b => ?_) (fun b => ?_)
    · walk_at "go"
      intro z z0 z1
      exact ⟨z, z0, by rw [h12] at z1; omega, rfl, rfl⟩
    · exact ⟨y, y0, y1, rfl, rfl⟩
  rintro σ' H8 ⟨y, y0, y1, rfl, rfl⟩
  walk_at "go"
  intro q8 hq8
  exact q (pl, o', c', y) q8 _ ⟨⟨p0, p1⟩, o0', c0', c1', y0, y1⟩ (e7.trans (Evl.Ex.new hq8)) (Evl.fresh_back e7 hq8) upd_same
/-! #### Day.__init__ -/
def sp_Day___init (K : PySem.W.Frag) : Sp := fun vs H Q E => ∃ (p dx r l : Addr) (w : Str) (len home start : Int) (ps : List Addr) (sts : List Stp) (_u : Unit), vs = [.ref p, .ref r, .int home, .int start, .ref l] ∧ H p = some (.ins (He.ga K "Day") dx []) ∧ SqT K H r [.str w, .int len] ∧ SqL K H l (ps.map V.ref) ∧ StopsR K H ps sts ∧
  (dayFlt w len home start sts = none → ∀ l' H', (∀ b o, b ≠ p → H b = some o → H' b = some o) → H l' = none → H' p = some (.ins (He.ga K "Day") dx (dayFs r l' home start)) → H' l' = some (.lst (ps.map V.ref)) → Q .non H') ∧
  (∀ f, dayFlt w len home start sts = some f → ∀ H', Ex H H' → E (.ref (fltC K f)) none H')
set_option maxHeartbeats 4000000 in
theorem ok_Day___init (T : Txt K mg D) : FnOk P w K mg base (L2.CX P w) 4 (He.ma K (He.ga K "Day") "__init__") (D "Day.__init__") ["self", "road", "home", "start", "stops"] (sp_Day___init K) := by
  refine T.F_Day___init.ok sc_Day___init (fun vs H Q E h => ?_) (fun cdv A outer s H vs Q E hr h => ?_)
  · obtain ⟨_, _, _, _, _, _, _, _, _, _, _, rfl, _⟩ := h
    rfl
  obtain ⟨p, dx, r, l, w', len, home, start, ps, sts, _, rfl, hp, hR, hL, hP, q1, q2⟩ := h
  refine ⟨_, (pss_cons (ps_expr (pe_call (ok_check_day T) hr rfl T.m_check_day T.F_check_day.kp T.b_check_day .nil (passes_call (E := E) (takes_of rfl rfl rfl rfl) (fun _ _ _ _ h => h)) (pa_cons (pv 1) (pa_cons (pv 2) (pa_cons (pv 3) (pa_cons (pv 4) pa_nil))))))
    (pss_cons (ps_fld (pv 0) (pv 1) rfl)
    (pss_cons (ps_fld (pv 0) (pv 2) rfl)
    (pss_cons (ps_fld (pv 0) (pv 3) rfl)
    (pss_one (ps_fld (pv 0) (pe_callTy call_list_of rfl T.m_list (by decide +kernel) (pa_cons (pv 4) pa_nil)) rfl)))))), ?_⟩
  walk_at "go"
  refine ⟨r, l, w', len, home, start, ps, sts, (), rfl, hR, hL, hP, fun z H1 e1 => ?_, q2⟩
  walk_at "go"
  refine ⟨p, _, dx, _, rfl, e1 _ _ hp, T.cl_Day, T.na_Day_road, (by decide), ?_⟩
  walk_at "go"
  refine ⟨p, _, dx, _, rfl, upd_same, T.cl_Day, T.na_Day_home, (by show 1 < 1000; decide), ?_⟩
  walk_at "go"
  refine ⟨p, _, dx, _, rfl, upd_same, T.cl_Day, T.na_Day_start, (by show 2 < 1000; decide), ?_⟩
  walk_at "go"
  refine ⟨l, _, rfl, Or.inl (SqL.at_ins upd_same (SqL.at_ins upd_same (SqL.at_ins (e1 _ _ hp) (Evl.ex_l e1 hL)))), fun l' hl' => ?_⟩
  walk_at "go"
  have nep : p ≠ l' := fun e => by rw [e, upd_same] at hl'; cases hl'
  refine ⟨p, _, dx, _, rfl, (by rw [upd_ne nep]; exact upd_same), T.cl_Day, T.na_Day_stops, (by show 3 < 1000; decide), ?_⟩
  have fr : H l' = none := by
    have h1 : H1 l' = none := by
      have h2 := hl'
      rw [upd_ne (Ne.symm nep), upd_ne (Ne.symm nep), upd_ne (Ne.symm nep)] at h2
      exact h2
    exact Evl.fresh_back e1 h1
  refine q1 z l' _ (fun b o hb ho => ?_) fr upd_same ?_
  · have hbl : b ≠ l' := fun e => by rw [e, fr] at ho; cases ho
    rw [upd_ne hb, upd_ne hbl, upd_ne hb, upd_ne hb, upd_ne hb]
    exact e1 _ _ ho
  · rw [upd_ne (Ne.symm nep)]
    exact upd_same
/-! #### timetable -/
def sp_timetable (K : PySem.W.Frag) : Sp := fun vs H Q E => ∃ (d o r l : Addr) (ring : Bool) (len home start : Int) (ps : List Addr) (sts : List Stp) (ns : List Int), vs = [.ref d, .ref o] ∧ DayAt K H d r l (wordOf ring) len home start ps sts ∧ SqL K H o (ns.map V.int) ∧ ns.length ≤ 4000 ∧ 0 < len ∧
  (¬ ordOk ns sts.length → ∀ H', Ex H H' → E (.ref (He.ga K "BadOrder")) none H') ∧
  (ordOk ns sts.length → rowsOf ring len sts home start ns = none → ∀ H', Ex H H' → E (.ref (He.ga K "Missed")) none H') ∧
  (ordOk ns sts.length → ∀ rs, rowsOf ring len sts home start ns = some rs → ∀ l' qs H', Ex H H' → H l' = none → H' l' = some (.lst (qs.map V.ref)) → RowsR H' qs rs → Q (.ref l') H')
set_option maxHeartbeats 4000000 in
theorem ok_timetable (T : Txt K mg D) : FnOk P w K mg base (L2.CX P w) 4 (He.ga K "timetable") (D "timetable") ["day", "order"] (sp_timetable K) := by
  refine T.F_timetable.ok sc_timetable (fun vs H Q E h => ?_) (fun cdv A outer s H vs Q E hr h => ?_)
  · obtain ⟨_, _, _, _, _, _, _, _, _, _, _, rfl, _⟩ := h
    rfl
  obtain ⟨d, o, r, l, ring, len, home, start, ps, sts, ns, rfl, hD, hO, hz, hl0, q1, q2, q3⟩ := h
  refine ⟨_, (pss_cons (ps_expr (pe_call (ok_check_order T) (hr.mono (by decide)) rfl T.m_check_order T.F_check_order.kp T.b_check_order .nil (passes_call (E := E) (takes_of rfl rfl rfl rfl) (fun _ _ _ _ h => h)) (pa_cons (pv 0) (pa_cons (pv 1) pa_nil))))
    (pss_cons (ps_set (i := 2) sc_timetable.nd rfl (Or.inl rfl) (pe_lst pa_nil))
    (pss_cons (ps_set (i := 3) sc_timetable.nd rfl (Or.inl rfl) (pe_fld (pv 0) rfl))
    (pss_cons (ps_set (i := 4) sc_timetable.nd rfl (Or.inl rfl) (pe_fld (pv 0) rfl))
    (pss_cons (ps_for (passes_of rfl) rfl (pi_list (pv 1)) (pg_name (i := 5) sc_timetable.nd rfl (Or.inl rfl))
      (pss_cons (ps_set (i := 6) sc_timetable.nd rfl (Or.inl rfl) (pe_call (ok_visit T) hr rfl T.m_visit T.F_visit.kp T.b_visit .nil pass0 (pa_cons (pv 0) (pa_cons (pv 3) (pa_cons (pv 4) (pa_cons (pv 5) pa_nil))))))
      (pss_cons (ps_if (pt_cmpR op_isN1 (pv 6) pe_non (nomark _)) (pss_one (ps_raise rfl (takes_of rfl rfl rfl rfl) (pmk_own PySem.F.excBase_ValueError T.x_Missed T.m_Missed T.kp_Missed (raises_own T.sb_Missed T.ty_Missed) (by exact rfl)))) pss_nil)
      (pss_cons (ps_expr (pe_bm PySem.F.plainAttrs_list PySem.F.slot_list_append PySem.F.type_list_append mt_append (pv 2) (pa_cons (pv 6) pa_nil)))
      (pss_cons (ps_set (i := 3) sc_timetable.nd rfl (Or.inl rfl) (pe_ix ix_tup (pe_ix ix_list (pe_fld (pv 0) rfl) (pv 5) (fun _ _ => rfl)) pe_int (fun _ _ => rfl)))
      (pss_one (ps_set (i := 4) sc_timetable.nd rfl (Or.inl rfl) (pe_ix ix_tup (pv 6) pe_int (fun _ _ => rfl)))))))))
    (pss_one (ps_ret (pv 2)))))))), ?_⟩
  walk_at "go"
  refine ⟨d, o, r, l, _, len, home, start, ps, sts, ns, rfl, hD, hO, hz, fun ok => ?_, fun bad => q1 bad _ (Evl.Ex.refl _)⟩
  walk_at "go"
  intro R hR
  have e1 := Evl.Ex.new (o := .lst []) hR
  have hR1 : (upd H R (.lst [])) R = some (.lst []) := upd_same
  generalize upd H R (.lst []) = H1 at e1 hR1
  obtain ⟨⟨dx, k1⟩, k2, k3, k4⟩ := id (hD.ex e1)
  walk_at "go"
  refine ⟨d, _, dx, _, _, rfl, k1, T.cl_Day, T.na_Day_home, rfl, ?_⟩
  walk_at "go"
  refine ⟨d, _, dx, _, _, rfl, k1, T.cl_Day, T.na_Day_start, rfl, ?_⟩
  walk_at "go"
  refine ⟨⟨_, Evl.ex_l e1 hO⟩, for_list (K := K) (a := o) (xs := ns.map V.int) (fun i σ H' => ∃ (pl lv : Int) (x5 x6 : Option V) (qs : List Addr) (rs : List Row), σ = [some (.ref d), some (.ref o), some (.ref R), some (.int pl), some (.int lv), x5, x6] ∧ Ex H H' ∧ H' R = some (.lst (qs.map V.ref)) ∧ RowsR H' qs rs ∧ rs.length = i ∧ rowsOf ring len sts home start ns = (rowsOf ring len sts pl lv (ns.drop i)).map (fun z => rs ++ z)) ⟨home, start, _, _, [], [], rfl, e1, hR1, .nil, rfl, (by simp)⟩ (fun i σ H' _ p => ?_) ?_ ?_⟩
  · obtain ⟨pl, lv, x5, x6, qs, rs, rfl, e, p2⟩ := p
    exact Evl.ex_l e hO
  · rintro i y σ H2 hi ⟨pl, lv, x5, x6, qs, rs, rfl, e2, hR2, hq2, hl2, eq2⟩
    obtain ⟨n, hn, rfl⟩ := map_int_get hi
    have nmem : n ∈ ns := List.mem_of_getElem? hn
    obtain ⟨n0, n1⟩ := ok.1 n nmem
    have dr : ns.drop i = n :: ns.drop (i + 1) := by
      obtain ⟨h1, h2⟩ := List.getElem?_eq_some_iff.mp hn
      rw [List.drop_eq_getElem_cons h1, h2]
    have hi2 : i < 4000 := by
      obtain ⟨h1, _⟩ := List.getElem?_eq_some_iff.mp hn
      omega
    rw [dr, rows_go] at eq2
    obtain ⟨⟨dx2, m1⟩, m2, m3, m4⟩ := id (hD.ex e2)
    obtain ⟨t, ht, hT⟩ := stop_val m4 n0 n1
    walk_at "go"
    refine ⟨d, r, l, ring, len, home, start, pl, lv, n, ps, sts, (), (), rfl, hD.ex e2, hl0, n0, n1, fun no => ?_, fun x yes p hp => ?_⟩
    · rw [no] at eq2
      walk_at "go"
      exact iteTb rfl (q2 ok eq2 _ e2)
    · rw [yes] at eq2
      have eq3 : rowsOf ring len sts home start ns = ((rowsOf ring len sts (stAt sts n).1 x.2.2 (ns.drop (i + 1))).map fun z => x :: z).map fun z => rs ++ z := eq2
      have e3 := e2.trans (Evl.Ex.new (o := .tup (rowV x)) hp)
      have nRp : R ≠ p := ne_of_none hR2 hp
      have hR3 : (upd H2 p (.tup (rowV x))) R = some (.lst (qs.map V.ref)) := by rw [upd_ne nRp]; exact hR2
      have hq3 : RowsR (upd H2 p (.tup (rowV x))) qs rs := hq2.ex (Evl.Ex.new hp)
      have hp3 : (upd H2 p (.tup (rowV x))) p = some (.tup (rowV x)) := upd_same
      generalize upd H2 p (.tup (rowV x)) = H3 at e3 hR3 hq3 hp3
      walk_at "go"
      refine ⟨Or.inl ⟨rfl, _, SqL.of hR3⟩, ?_⟩
      walk_at "go"
      refine ⟨R, _, _, rfl, rfl, hR3, Evl.sz_lt (by rw [List.length_map, hq3.len]; omega), ?_⟩
      have hR4 : (upd H3 R (.lst (qs.map V.ref ++ [.ref p]))) R = some (.lst ((qs ++ [p]).map V.ref)) := by rw [upd_same, List.map_append]; rfl
      have hq4 : RowsR (upd H3 R (.lst (qs.map V.ref ++ [.ref p]))) (qs ++ [p]) (rs ++ [x]) := RowsR.at_lst hR3 (RowsR.snoc hp3 hq3)
      have e4 : Ex H (upd H3 R (.lst (qs.map V.ref ++ [.ref p]))) := Evl.Ex.mut e3 hR
      have hp4 : (upd H3 R (.lst (qs.map V.ref ++ [.ref p]))) p = some (.tup (rowV x)) := by rw [upd_ne (Ne.symm nRp)]; exact hp3
      generalize upd H3 R (.lst (qs.map V.ref ++ [.ref p])) = H4 at e4 hR4 hq4 hp4
      obtain ⟨⟨dx4, y1⟩, y2, y3, y4⟩ := id (hD.ex e4)
      obtain ⟨t4, ht4, hT4⟩ := stop_val y4 n0 n1
      have r2 : atI (rowV x) 2 = some (.int x.2.2) := rfl
      have s0 : atI (stopV (stAt sts n)) 0 = some (.int (stAt sts n).1) := rfl
      walk_at "go"
      refine ⟨d, _, dx4, _, _, rfl, y1, T.cl_Day, T.na_Day_stops, rfl, ?_⟩
      walk_at "go"
      refine ⟨_, _, _, _, qs ++ [p], rs ++ [x], rfl, e4, hR4, hq4, ?_, eq3.trans (map_map_app rfl)⟩
      rw [List.length_append, hl2]
      rfl
  · rintro σ H2 ⟨pl, lv, x5, x6, qs, rs, rfl, e2, hR2, hq2, hl2, eq2⟩
    rw [List.length_map, List.drop_length] at eq2
    walk_at "go"
    refine q3 ok rs ?_ R qs H2 e2 hR hR2 hq2
    rw [eq2]
    show some (rs ++ []) = some rs
    rw [List.append_nil]
/-! #### _law_stops_by -/
def sp_law_stops_by (K : PySem.W.Frag) : Sp := fun vs H Q _ => ∃ (r a : Addr) (ring : Bool) (len start many : Int) (ns : List Int), vs = [.ref r, .int start, .ref a, .int many] ∧ SqT K H r (roadV ring len) ∧ 1 ≤ len ∧ len ≤ 1000000000 ∧ 0 ≤ start ∧ start ≤ 1000000000000 ∧ SqL K H a (ns.map V.int) ∧ ns.length ≤ 63 ∧ 0 ≤ many ∧ many ≤ 1000 ∧
  ∀ sts ps l H', sts.length = many.toNat → (∀ s ∈ sts, goodStop ring len s) → Ex H H' → H l = none → H' l = some (.lst (ps.map V.ref)) → StopsR K H' ps sts → Q (.ref l) H'
set_option maxHeartbeats 4000000 in
theorem ok_law_stops_by (T : Txt K mg D) : FnOk P w K mg base CX0 4 (He.ga K "_law_stops_by") (D "_law_stops_by") ["_law_road", "_law_start", "_law_script", "_law_many"] (sp_law_stops_by K) := by
  refine T.F_law_stops_by.ok sc_law_stops_by (fun vs H Q E h => ?_) (fun cdv A outer s H vs Q E hr h => ?_)
  · obtain ⟨_, _, _, _, _, _, _, rfl, _⟩ := h
    rfl
  obtain ⟨r, a, ring, len, start, many, ns, rfl, hR, l1, l2, s0, s1, hS, hn, m0, m1, q⟩ := h
  refine ⟨_, PSs.nox (pss_one (ps_ret (pe_lc (own := [("_law_k", 4)]) (g := gName 4) (tt := tYes) rfl sc_law_stops_by.nd (pi_range1 rfl T.m_range (pa_cons (pv 3) pa_nil)) (blkOk_by (own := [("_law_k", 4)]) (N := N_law_stops_by) (sc := defScope s_law_stops_by) (by decide +kernel)) (fun _ _ _ _ _ => pg_name (i := 4) sc_law_stops_by.nd rfl (Or.inl rfl)) (fun _ _ _ _ _ => pts_nil) (fun _ _ _ _ _ => (by refine' pe_eq (t' := ?tt) (pe_call (ok_law_stop_by T) hr rfl T.m_law_stop_by T.F_law_stop_by.kp T.b_law_stop_by .nil pass0 (pa_cons (pv 0) (pa_cons (pv 1) (pa_cons (pv 2) (pa_cons (pe_op op_add pe_int (pe_op op_mul pe_int (pv 4))) pa_nil))))) ?qq; case qq => (first | (dsimp only [L2.Cx.blk]; done) | (dsimp only [L2.Cx.blk]; rfl) | rfl)))))), ?_⟩
  walk_at "go"
  intro D hD
  refine lc_range (lo := 0) (n := many.toNat) (fun i H' => ∃ sts ps, sts.length = i ∧ (∀ s ∈ sts, goodStop ring len s) ∧ Ex H H' ∧ H' D = some (.lst (ps.map V.ref)) ∧ StopsR K H' ps sts) ⟨[], [], rfl, (by simp), Evl.Ex.new hD, upd_same, .nil⟩ ?_ ?_
  · rintro i H' hi ⟨sts, ps, hlen, hg, e, hd, hP⟩
    walk_at "go"
    refine ⟨r, a, ring, len, start, _, ns, rfl, Evl.ex_t e hR, l1, l2, s0, s1, Evl.ex_l e hS, hn, fun s p H2 gs e2 hp hp2 => ⟨ps.map V.ref, e2 _ _ hd, ?_, sts ++ [s], ps ++ [p], ?_, ?_, ?_, ?_, ?_⟩⟩
    · rw [List.length_map, hP.len, hlen]
      exact Evl.sz_lt (by omega)
    · rw [List.length_append, hlen]
      rfl
    · intro z hz
      rcases List.mem_append.mp hz with hz | hz
      · exact hg z hz
      · rw [List.mem_singleton.mp hz]
        exact gs
    · exact Evl.Ex.mut (e.trans e2) hD
    · rw [upd_same, List.map_append]
      rfl
    · exact StopsR.at_lst (e2 _ _ hd) (StopsR.snoc (SqT.of hp2) (hP.ex e2))
  · rintro H' ⟨sts, ps, hlen, hg, e, hd, hP⟩
    exact q sts ps D H' hlen hg e hD hd hP
/-! #### ends -/
/-- when the van is home -/
def endOf (ring : Bool) (len : Int) (sts : List Stp) (home start : Int) (ns : List Int) (rs : List Row) : Int := match ns.getLast?, rs.getLast? with
  | some n, some x => x.2.2 + apartOf ring len (stAt sts n).1 home
  | _, _ => start
theorem rows_len {ring : Bool} {len : Int} {sts : List Stp} : ∀ {ns : List Int} {pl t : Int} {rs : List Row}, rowsOf ring len sts pl t ns = some rs → rs.length = ns.length
  | [], _, _, rs, h => by rw [rowsOf] at h; cases h; rfl
  | n :: r, pl, t, rs, h => by
    by_cases c : t + apartOf ring len pl (stAt sts n).1 > (stAt sts n).2.2.1
    · rw [rows_miss c] at h; cases h
    · rw [rows_step c] at h
      cases e : rowsOf ring len sts (stAt sts n).1 (maxOf (t + apartOf ring len pl (stAt sts n).1) (stAt sts n).2.1 + (stAt sts n).2.2.2) r with
      | none => rw [e] at h; cases h
      | some z =>
        rw [e] at h
        have h2 := Option.some.inj h
        rw [← h2, List.length_cons, rows_len e, List.length_cons]
theorem end_snoc {ring : Bool} {len home start n : Int} {sts : List Stp} {ns : List Int} {rs : List Row} {x : Row} : endOf ring len sts home start (ns ++ [n]) (rs ++ [x]) = x.2.2 + apartOf ring len (stAt sts n).1 home := by
  unfold endOf
  rw [List.getLast?_append, List.getLast?_append]
  rfl
def sp_ends (K : PySem.W.Frag) : Sp := fun vs H Q E => ∃ (d o r l : Addr) (ring : Bool) (len home start : Int) (ps : List Addr) (sts : List Stp) (ns : List Int), vs = [.ref d, .ref o] ∧ DayAt K H d r l (wordOf ring) len home start ps sts ∧ SqL K H o (ns.map V.int) ∧ ns.length ≤ 4000 ∧ 0 < len ∧
  (¬ ordOk ns sts.length → ∀ H', Ex H H' → E (.ref (He.ga K "BadOrder")) none H') ∧
  (ordOk ns sts.length → rowsOf ring len sts home start ns = none → ∀ H', Ex H H' → E (.ref (He.ga K "Missed")) none H') ∧
  (ordOk ns sts.length → ∀ rs, rowsOf ring len sts home start ns = some rs → ∀ H', Ex H H' → Q (.int (endOf ring len sts home start ns rs)) H')
set_option maxHeartbeats 4000000 in
theorem ok_ends (T : Txt K mg D) : FnOk P w K mg base (L2.CX P w) 5 (He.ga K "ends") (D "ends") ["day", "order"] (sp_ends K) := by
  refine T.F_ends.ok sc_ends (fun vs H Q E h => ?_) (fun cdv A outer s H vs Q E hr h => ?_)
  · obtain ⟨_, _, _, _, _, _, _, _, _, _, _, rfl, _⟩ := h
    rfl
  obtain ⟨d, o, r, l, ring, len, home, start, ps, sts, ns, rfl, hD, hO, hz, hl0, q1, q2, q3⟩ := h
  refine ⟨_, (pss_cons (ps_set (i := 2) sc_ends.nd rfl (Or.inl rfl) (pe_call (ok_timetable T) hr rfl T.m_timetable T.F_timetable.kp T.b_timetable .nil (passes_call (E := E) (takes_of rfl rfl rfl rfl) (fun _ _ _ _ h => h)) (pa_cons (pv 0) (pa_cons (pv 1) pa_nil))))
    (pss_cons (ps_if (pt_not (pt_truth (pv 2) (by intro _; rfl))) (pss_one (ps_ret (pe_fld (pv 0) rfl))) pss_nil)
    (pss_cons (ps_set (i := 3) sc_ends.nd rfl (Or.inl rfl) (pe_ix ix_tup (pe_ix ix_list (pe_fld (pv 0) rfl) (pe_ix ix_list (pv 1) (pe_un un_neg pe_int) (fun _ _ => rfl)) (fun _ _ => rfl)) pe_int (fun _ _ => rfl)))
    (pss_cons (ps_set (i := 4) sc_ends.nd rfl (Or.inl rfl) (pe_ix ix_tup (pe_ix ix_list (pv 2) (pe_un un_neg pe_int) (fun _ _ => rfl)) pe_int (fun _ _ => rfl)))
    (pss_one (ps_ret (pe_op op_add (pv 4) (pe_call (ok_apart T) (hr.mono (by decide)) rfl T.m_apart T.F_apart.kp T.b_apart .nil pass0 (pa_cons (pe_fld (pv 0) rfl) (pa_cons (pv 3) (pa_cons (pe_fld (pv 0) rfl) pa_nil))))))))))), ?_⟩
  walk_at "go"
  refine ⟨d, o, r, l, ring, len, home, start, ps, sts, ns, rfl, hD, hO, hz, hl0, q1, q2, fun ok rs hrs l' qs H1 e1 fr hl hq => ?_⟩
  obtain ⟨⟨dx, k1⟩, k2, k3, k4⟩ := id (hD.ex e1)
  walk_at "go"
  have rl := rows_len hrs
  rcases split_last ns with rfl | ⟨ns', n, rfl⟩
  · obtain rfl : rs = [] := List.eq_nil_of_length_eq_zero rl
    obtain rfl : qs = [] := List.eq_nil_of_length_eq_zero hq.len
    refine ⟨false, Or.inl ⟨[], SqL.of hl, rfl⟩, ?_⟩
    walk_at "go"
    refine ⟨d, _, dx, _, _, rfl, k1, T.cl_Day, T.na_Day_start, rfl, ?_⟩
    exact q3 ok [] hrs _ e1
  · rcases split_last rs with rfl | ⟨rs', x, rfl⟩
    · rw [List.length_append] at rl; simp at rl
    obtain ⟨qs', p, rfl, hp⟩ := hq.last
    obtain ⟨n0, n1⟩ := ok.1 n (by simp)
    obtain ⟨t, ht, hT⟩ := stop_val k4 n0 n1
    have a1 : atI ((qs' ++ [p]).map V.ref) (-1) = some (.ref p) := by rw [List.map_append]; exact atI_last _ _
    have a2 : atI ((ns' ++ [n]).map V.int) (-1) = some (.int n) := by rw [List.map_append]; exact atI_last _ _
    have hO1 := Evl.ex_l e1 hO
    refine ⟨true, Or.inl ⟨_, SqL.of hl, (by simp)⟩, ?_⟩
    walk_at "go"
    refine ⟨d, _, dx, _, _, rfl, k1, T.cl_Day, T.na_Day_stops, rfl, ?_⟩
    walk_at "go"
    refine ⟨d, _, dx, _, _, rfl, k1, T.cl_Day, T.na_Day_road, rfl, ?_⟩
    walk_at "go"
    refine ⟨d, _, dx, _, _, rfl, k1, T.cl_Day, T.na_Day_home, rfl, ?_⟩
    walk_at "go"
    refine ⟨r, ring, len, (stAt sts n).1, home, rfl, k2, hl0, ?_⟩
    walk_at "go"
    have q' := q3 ok (rs' ++ [x]) hrs _ e1
    rw [end_snoc] at q'
    exact q'
/-! #### _law_told -/
def sp_law_told (K : PySem.W.Frag) : Sp := fun vs H Q _ => ∃ (d o r l : Addr) (ring : Bool) (len home start : Int) (ps : List Addr) (sts : List Stp) (ns : List Int), vs = [.ref d, .ref o] ∧ DayAt K H d r l (wordOf ring) len home start ps sts ∧ SqL K H o (ns.map V.int) ∧ ns.length ≤ 4000 ∧ 0 < len ∧
  (¬ ordOk ns sts.length → ∀ H', Ex H H' → Q (.str "order") H') ∧
  (ordOk ns sts.length → rowsOf ring len sts home start ns = none → ∀ H', Ex H H' → Q (.str "missed") H') ∧
  (ordOk ns sts.length → ∀ rs, rowsOf ring len sts home start ns = some rs → ∀ l' qs H', Ex H H' → H l' = none → H' l' = some (.lst (qs.map V.ref)) → RowsR H' qs rs → Q (.ref l') H')
set_option maxHeartbeats 4000000 in
theorem ok_law_told (T : Txt K mg D) : FnOk P w K mg base CX0 5 (He.ga K "_law_told") (D "_law_told") ["_law_day", "_law_order"] (sp_law_told K) := by
  refine T.F_law_told.ok sc_law_told (fun vs H Q E h => ?_) (fun cdv A outer s H vs Q E hr h => ?_)
  · obtain ⟨_, _, _, _, _, _, _, _, _, _, _, rfl, _⟩ := h
    rfl
  obtain ⟨d, o, r, l, ring, len, home, start, ps, sts, ns, rfl, hD, hO, hz, hl0, q1, q2, q3⟩ := h
  refine ⟨_, PSs.nox (pss_one (ps_try_many (Wout := fun _ _ _ _ => False) rfl rfl takes0
      (fun W pn xe tk po => (by refine pss_eq (pss_one (ps_ret (pe_callS (ok_timetable T) hr rfl T.m_timetable T.F_timetable.kp T.b_timetable (fun σ => passAt tk σ) (by exact (pa_cons (pv 0) (pa_cons (pv 1) pa_nil)))))) ?_; first | (dsimp only [L2.Cx.suite, L2.Cx.tr]; done) | (dsimp only [L2.Cx.suite, L2.Cx.tr]; rfl) | rfl))
      (HdsOk.cons ⟨rfl, by decide, Or.inl T.m_BadOrder⟩ (fun a oe cls d pn _ _ => (by refine pss_eq (pss_one (ps_ret pe_str)) ?_; first | (dsimp only [L2.Cx.suite, L2.Cx.tr]; done) | (dsimp only [L2.Cx.suite, L2.Cx.tr]; rfl) | rfl))
      (HdsOk.cons ⟨rfl, by decide, Or.inl T.m_Missed⟩ (fun a oe cls d pn _ _ => (by refine pss_eq (pss_one (ps_ret pe_str)) ?_; first | (dsimp only [L2.Cx.suite, L2.Cx.tr]; done) | (dsimp only [L2.Cx.suite, L2.Cx.tr]; rfl) | rfl))
      .nil)))), ?_⟩
  walk_at "go"
  refine ⟨d, o, r, l, ring, len, home, start, ps, sts, ns, rfl, hD, hO, hz, hl0, fun bad H1 e1 => ?_, fun ok ms H1 e1 => ?_, q3⟩
  · exact ⟨true, T.e_BadOrder_BadOrder, fun _ a _ => q1 bad _ e1, fun y => Bool.noConfusion y⟩
  · exact ⟨false, T.e_Missed_BadOrder, fun y => Bool.noConfusion y, fun _ => ⟨true, T.e_Missed_Missed, fun _ a _ => q2 ok ms _ e1, fun y => Bool.noConfusion y⟩⟩
/-! #### _law_ended -/
def sp_law_ended (K : PySem.W.Frag) : Sp := fun vs H Q _ => ∃ (d o r l : Addr) (ring : Bool) (len home start : Int) (ps : List Addr) (sts : List Stp) (ns : List Int), vs = [.ref d, .ref o] ∧ DayAt K H d r l (wordOf ring) len home start ps sts ∧ SqL K H o (ns.map V.int) ∧ ns.length ≤ 4000 ∧ 0 < len ∧
  (¬ ordOk ns sts.length → ∀ H', Ex H H' → Q (.str "order") H') ∧
  (ordOk ns sts.length → rowsOf ring len sts home start ns = none → ∀ H', Ex H H' → Q (.str "missed") H') ∧
  (ordOk ns sts.length → ∀ rs, rowsOf ring len sts home start ns = some rs → ∀ H', Ex H H' → Q (.int (endOf ring len sts home start ns rs)) H')
set_option maxHeartbeats 4000000 in
theorem ok_law_ended (T : Txt K mg D) : FnOk P w K mg base CX0 6 (He.ga K "_law_ended") (D "_law_ended") ["_law_day", "_law_order"] (sp_law_ended K) := by
  refine T.F_law_ended.ok sc_law_ended (fun vs H Q E h => ?_) (fun cdv A outer s H vs Q E hr h => ?_)
  · obtain ⟨_, _, _, _, _, _, _, _, _, _, _, rfl, _⟩ := h
    rfl
  obtain ⟨d, o, r, l, ring, len, home, start, ps, sts, ns, rfl, hD, hO, hz, hl0, q1, q2, q3⟩ := h
  refine ⟨_, PSs.nox (pss_one (ps_try_as (i := 2) (Wout := fun _ _ _ _ => False) rfl rfl sc_law_ended.nd rfl rfl ⟨rfl, by decide, Or.inl T.m_RouteError⟩ takes0
      (fun W pn xe tk po => (by refine pss_eq (pss_one (ps_ret (pe_callS (ok_ends T) hr rfl T.m_ends T.F_ends.kp T.b_ends (fun σ => passAt tk σ) (by exact (pa_cons (pv 0) (pa_cons (pv 1) pa_nil)))))) ?_; first | (dsimp only [L2.Cx.suite, L2.Cx.tr]; done) | (dsimp only [L2.Cx.suite, L2.Cx.tr]; rfl) | rfl))
      (fun a oe cls d pn hz hf => (by refine pss_eq (pss_cons (ps_set (i := 3) sc_law_ended.nd rfl (Or.inl rfl) (pe_lst (pa_cons (pe_callB (call_isX hz hf) rfl T.m_isinstance (by decide +kernel) (pa_cons (pv 2) (pa_cons (pe_glob (v := V.ref (He.ga K "BadRoad")) rfl T.m_BadRoad rfl) pa_nil))) (pa_cons (pe_callB (call_isX hz hf) rfl T.m_isinstance (by decide +kernel) (pa_cons (pv 2) (pa_cons (pe_glob (v := V.ref (He.ga K "OffRoad")) rfl T.m_OffRoad rfl) pa_nil))) (pa_cons (pe_callB (call_isX hz hf) rfl T.m_isinstance (by decide +kernel) (pa_cons (pv 2) (pa_cons (pe_glob (v := V.ref (He.ga K "BadTime")) rfl T.m_BadTime rfl) pa_nil))) pa_nil))))) (pss_cons (ps_set (i := 3) sc_law_ended.nd rfl (Or.inl rfl) (pe_op op_cat (pv 3) (pe_lst (pa_cons (pe_callB (call_isX hz hf) rfl T.m_isinstance (by decide +kernel) (pa_cons (pv 2) (pa_cons (pe_glob (v := V.ref (He.ga K "TooMany")) rfl T.m_TooMany rfl) pa_nil))) (pa_cons (pe_callB (call_isX hz hf) rfl T.m_isinstance (by decide +kernel) (pa_cons (pv 2) (pa_cons (pe_glob (v := V.ref (He.ga K "NoDay")) rfl T.m_NoDay rfl) pa_nil))) pa_nil))))) (pss_cons (ps_expr (pe_bm PySem.F.plainAttrs_list PySem.F.slot_list_append PySem.F.type_list_append mt_append (pv 3) (pa_cons (pe_cmpR op_eq (pe_callB (call_isX hz hf) rfl T.m_isinstance (by decide +kernel) (pa_cons (pv 2) (pa_cons (pe_glob (v := V.ref (He.ga K "BadOrder")) rfl T.m_BadOrder rfl) pa_nil))) (pe_callB (call_isX hz hf) rfl T.m_isinstance (by decide +kernel) (pa_cons (pv 2) (pa_cons (pe_glob (v := V.ref (He.ga K "Missed")) rfl T.m_Missed rfl) pa_nil))) (nomark _)) pa_nil))) (pss_cons (ps_if (PW.pt (pw_or (pt_not (pt_val (pe_callB (call_isX hz hf) rfl T.m_isinstance (by decide +kernel) (pa_cons (pv 2) (pa_cons (pe_bltn (v := V.ty "ValueError") (u := Value.type "ValueError") rfl T.m_ValueError (by decide +kernel) rfl) pa_nil))))) (pw_or1 (pt_cmpR op_in_seq pe_bl (pv 3) rfl)))) (pss_one (ps_ret pe_str)) pss_nil) (pss_one (ps_ret (pe_ix ix_list (pe_lst (pa_cons pe_str (pa_cons pe_str pa_nil))) (pe_callTy call_int1 rfl T.m_int (by decide +kernel) (pa_cons (pe_callB (call_isX hz hf) rfl T.m_isinstance (by decide +kernel) (pa_cons (pv 2) (pa_cons (pe_glob (v := V.ref (He.ga K "BadOrder")) rfl T.m_BadOrder rfl) pa_nil))) pa_nil)) (fun _ _ => rfl)))))))) ?_; first | (dsimp only [L2.Cx.suite, L2.Cx.tr]; done) | (dsimp only [L2.Cx.suite, L2.Cx.tr]; rfl) | rfl)))), ?_⟩
  walk_at "go"
  refine ⟨d, o, r, l, ring, len, home, start, ps, sts, ns, rfl, hD, hO, hz, hl0, fun bad H1 e1 => ?_, fun ok ms H1 e1 => ?_, q3⟩
  · refine ⟨true, T.e_BadOrder_RouteError, fun _ a fa => ?_, fun y => Bool.noConfusion y⟩
    have c1 := T.ec_BadOrder
    have i1 := T.is_BadOrder_BadRoad
    have i2 := T.is_BadOrder_OffRoad
    have i3 := T.is_BadOrder_BadTime
    have i4 := T.is_BadOrder_TooMany
    have i5 := T.is_BadOrder_NoDay
    have i6 := T.is_BadOrder_BadOrder
    have i7 := T.is_BadOrder_Missed
    have i8 := T.is_BadOrder_ValueError
    walk_at "go"
    intro p4 hp4
    walk_at "go"
    intro p5 hp5
    have n5 : p4 ≠ p5 := fun y => by rw [← y, upd_same] at hp5; cases hp5
    refine ⟨p4, p5, _, _, rfl, rfl, (by rw [upd_ne n5]; exact upd_same), upd_same, Evl.sz_of (by decide), fun p6 hp6 => ?_⟩
    walk_at "go"
    refine ⟨Or.inl ⟨rfl, _, SqL.of upd_same⟩, ?_⟩
    walk_at "go"
    refine ⟨p6, _, _, rfl, rfl, upd_same, Evl.sz_lt (by decide), ?_⟩
    walk_at "go"
    refine ⟨p6, _, rfl, Or.inl (SqL.of upd_same), rfl, rfl, ?_⟩
    walk_at "go"
    intro p7 hp7
    walk_at "go"
    refine Or.inr ⟨true, rfl, ?_⟩
    refine ⟨p7, _, _, _, rfl, rfl, SqL.of upd_same, rfl, ?_⟩
    exact q1 bad _ ((Evl.Ex.mut (((e1.trans (Evl.Ex.new hp4)).trans (Evl.Ex.new hp5)).trans (Evl.Ex.new hp6)) (Evl.fresh_back (by exact (e1.trans (Evl.Ex.new hp4)).trans (Evl.Ex.new hp5)) hp6)).trans (Evl.Ex.new hp7))
  · refine ⟨true, T.e_Missed_RouteError, fun _ a fa => ?_, fun y => Bool.noConfusion y⟩
    have c1 := T.ec_Missed
    have i1 := T.is_Missed_BadRoad
    have i2 := T.is_Missed_OffRoad
    have i3 := T.is_Missed_BadTime
    have i4 := T.is_Missed_TooMany
    have i5 := T.is_Missed_NoDay
    have i6 := T.is_Missed_BadOrder
    have i7 := T.is_Missed_Missed
    have i8 := T.is_Missed_ValueError
    walk_at "go"
    intro p4 hp4
    walk_at "go"
    intro p5 hp5
    have n5 : p4 ≠ p5 := fun y => by rw [← y, upd_same] at hp5; cases hp5
    refine ⟨p4, p5, _, _, rfl, rfl, (by rw [upd_ne n5]; exact upd_same), upd_same, Evl.sz_of (by decide), fun p6 hp6 => ?_⟩
    walk_at "go"
    refine ⟨Or.inl ⟨rfl, _, SqL.of upd_same⟩, ?_⟩
    walk_at "go"
    refine ⟨p6, _, _, rfl, rfl, upd_same, Evl.sz_lt (by decide), ?_⟩
    walk_at "go"
    refine ⟨p6, _, rfl, Or.inl (SqL.of upd_same), rfl, rfl, ?_⟩
    walk_at "go"
    intro p7 hp7
    walk_at "go"
    refine Or.inr ⟨false, rfl, ?_⟩
    refine ⟨p7, _, _, _, rfl, rfl, SqL.of upd_same, rfl, ?_⟩
    exact q2 ok ms _ ((Evl.Ex.mut (((e1.trans (Evl.Ex.new hp4)).trans (Evl.Ex.new hp5)).trans (Evl.Ex.new hp6)) (Evl.fresh_back (by exact (e1.trans (Evl.Ex.new hp4)).trans (Evl.Ex.new hp5)) hp6)).trans (Evl.Ex.new hp7))
/-! #### _law_right -/
def intsD (ns : List Int) : PyData := .list (ns.map PyData.int)
theorem ints_all {K : PySem.W.Frag} {H : Hp} : ∀ ns : List Int, DpAll K H (ns.map V.int) (ns.map PyData.int)
  | [] => .nil
  | n :: r => .cons (.int n) (ints_all r)
theorem ints_dp {K : PySem.W.Frag} {H : Hp} {o : Addr} {ns : List Int} (h : SqL K H o (ns.map V.int)) : Dp K H (.ref o) (intsD ns) := .lst h (ints_all ns)
theorem canLay_ints : ∀ ns : List Int, PyData.canLayAll0 (ns.map PyData.int) = true
  | [] => by simp [PyData.canLayAll0]
  | n :: r => by
    have ih := canLay_ints r
    simp only [List.map_cons, PyData.canLayAll0, ih, Bool.and_true]
    simp [PyData.canLay0]
theorem depth_ints : ∀ ns : List Int, PyData.depthAll (ns.map PyData.int) ≤ 2
  | [] => by simp [PyData.depthAll]
  | n :: r => by
    have ih := depth_ints r
    simp only [List.map_cons, PyData.depthAll]
    have : PyData.depth (PyData.int n) ≤ 2 := by simp [PyData.depth]
    omega
theorem shaped_ints (ns : List Int) : SeqAt.shaped (intsD ns) = true := by
  have h1 := canLay_ints ns
  have h2 := depth_ints ns
  unfold SeqAt.shaped intsD
  rw [Bool.and_eq_true]
  refine ⟨by simpa [PyData.canLay0] using h1, decide_eq_true ?_⟩
  simp only [PyData.depth]
  omega
theorem strOk_word (ring : Bool) : PyData.strOk (wordOf ring) = true := by cases ring <;> decide +kernel
def partsD (ring : Bool) (len home start : Int) : PyData := .tuple [.tuple [.str (wordOf ring), .int len], .int home, .int start]
theorem shaped_parts (ring : Bool) (len home start : Int) : SeqAt.shaped (partsD ring len home start) = true := by
  have hs := strOk_word ring
  unfold SeqAt.shaped partsD
  simp [PyData.canLay0, PyData.canLayAll0, PyData.depth, PyData.depthAll, hs]
theorem parts_dp {K : PySem.W.Frag} {H : Hp} {p r : Addr} {ring : Bool} {len home start : Int} (hp : SqT K H p [.ref r, .int home, .int start]) (hr : SqT K H r (roadV ring len)) : Dp K H (.ref p) (partsD ring len home start) := .tup hp (.cons (.tup hr (.cons (.str _) (.cons (.int _) .nil))) (.cons (.int _) (.cons (.int _) .nil)))
theorem shaped_order : SeqAt.shaped (.str "order") = true := by decide +kernel
theorem shaped_missed : SeqAt.shaped (.str "missed") = true := by decide +kernel
def sp_law_right (K : PySem.W.Frag) : Sp := fun vs H Q _ => ∃ (d sl o h : Addr) (r l : Addr) (ring : Bool) (len home start : Int) (ps : List Addr), vs = [.ref d, .ref sl, .ref o, .ref h] ∧ ∃ (ps2 : List Addr) (sts : List Stp) (ns : List Int), DayAt K H d r l (wordOf ring) len home start ps sts ∧ SqL K H sl (ps2.map V.ref) ∧ StopsR K H ps2 sts ∧ SqL K H o (ns.map V.int) ∧ SqL K H h (ns.map V.int) ∧ ns.length ≤ 4000 ∧ 0 < len ∧ onRoad ring len home ∧ (∀ s ∈ sts, goodStop ring len s) ∧ sts.length ≤ 7 ∧
  ∀ H', Ex H H' → Q (.bl true) H'
set_option maxHeartbeats 4000000 in
theorem ok_law_right (T : Txt K mg D) : FnOk P w K mg base CX0 7 (He.ga K "_law_right") (D "_law_right") ["_law_day", "_law_stops", "_law_order", "_law_handed"] (sp_law_right K) := by
  refine T.F_law_right.ok sc_law_right (fun vs H Q E h => ?_) (fun cdv A outer s H vs Q E hr h => ?_)
  · obtain ⟨_, _, _, _, _, _, _, _, _, _, _, rfl, _⟩ := h
    rfl
  obtain ⟨d, sl, o, hd, r, l, ring, len, home, start, ps, rfl, ps2, sts, ns, hD, hSl, hP2, hO, hHd, hz, hl0, hh, hg, h7, q⟩ := h
  refine ⟨_, PSs.nox (pss_cons (ps_set (i := 4) sc_law_right.nd rfl (Or.inl rfl) (pe_fld (pv 0) rfl))
    (pss_cons (ps_set (i := 5) sc_law_right.nd rfl (Or.inl rfl) (pe_fld (pv 0) rfl))
    (pss_cons (ps_set (i := 6) sc_law_right.nd rfl (Or.inl rfl) (pe_fld (pv 0) rfl))
    (pss_cons (ps_set (i := 7) sc_law_right.nd rfl (Or.inl rfl) (pe_call (ok_law_told T) (hr.mono (by decide)) rfl T.m_law_told T.F_law_told.kp T.b_law_told .nil pass0 (pa_cons (pv 0) (pa_cons (pv 3) pa_nil))))
    (pss_cons (ps_set (i := 8) sc_law_right.nd rfl (Or.inl rfl) (pe_call (ok_law_ended T) hr rfl T.m_law_ended T.F_law_ended.kp T.b_law_ended .nil pass0 (pa_cons (pv 0) (pa_cons (pv 3) pa_nil))))
    (pss_cons (ps_if (PW.pt (pw_or (pt_cmpR (op_neD hr.units) (pv 3) (pv 2) (nomark _)) (pw_or (pt_cmpR (op_neD hr.units) (pe_fld (pv 0) rfl) (pv 1) (nomark _)) (pw_or1 (pt_cmpR (op_neD hr.units) (pe_tup (pa_cons (pe_fld (pv 0) rfl) (pa_cons (pe_fld (pv 0) rfl) (pa_cons (pe_fld (pv 0) rfl) pa_nil)))) (pe_tup (pa_cons (pv 4) (pa_cons (pv 5) (pa_cons (pv 6) pa_nil)))) (nomark _)))))) (pss_one (ps_ret pe_bl)) pss_nil)
    (pss_cons (ps_if (pt_val (pe_call (ok_law_bad T) (hr.mono (by decide)) rfl T.m_law_bad T.F_law_bad.kp T.b_law_bad .nil pass0 (pa_cons (pv 2) (pa_cons (pe_callB call_len_seq rfl T.m_len PySem.boot_len (pa_cons (pv 1) pa_nil)) pa_nil)))) (pss_one (ps_ret (pe_and (pe_cmpR (op_eqD hr.units) (pv 7) pe_str (nomark _)) (pe_one (pe_cmpR op_eq (pv 8) pe_str (nomark _)))))) pss_nil)
    (pss_cons (ps_set (i := 9) sc_law_right.nd rfl (Or.inl rfl) (pe_call (ok_law_rows T) (hr.mono (by decide)) rfl T.m_law_rows T.F_law_rows.kp T.b_law_rows .nil pass0 (pa_cons (pv 4) (pa_cons (pv 5) (pa_cons (pv 6) (pa_cons (pv 1) (pa_cons (pv 2) pa_nil)))))))
    (pss_cons (ps_if (pt_cmpR op_isN1 (pv 9) pe_non (nomark _)) (pss_one (ps_ret (pe_and (pe_cmpR (op_eqD hr.units) (pv 7) pe_str (nomark _)) (pe_one (pe_cmpR op_eq (pv 8) pe_str (nomark _)))))) pss_nil)
    (pss_cons (ps_if (pt_not (pt_val (pe_call (ok_law_alike T) (hr.mono (by decide)) rfl T.m_law_alike T.F_law_alike.kp T.b_law_alike .nil pass0 (pa_cons (pv 7) (pa_cons (pv 9) pa_nil))))) (pss_one (ps_ret pe_bl)) pss_nil)
    (pss_cons (ps_expr (pe_bm PySem.F.plainAttrs_list PySem.F.slot_list_append PySem.F.type_list_append mt_append (pv 7) (pa_cons (pe_tup (pa_cons pe_int (pa_cons pe_int (pa_cons pe_int pa_nil)))) pa_nil)))
    (pss_cons (ps_set (i := 10) sc_law_right.nd rfl (Or.inl rfl) (pv 6))
    (Evl.pss_cut (ps_if (pt_cmpR op_gt (pe_callB call_len_seq rfl T.m_len PySem.boot_len (pa_cons (pv 9) pa_nil)) pe_int (nomark _)) (pss_one (ps_set (i := 10) sc_law_right.nd rfl (Or.inl rfl) (pe_op op_add (pe_ix ix_tup (pe_ix ix_list (pv 9) (pe_un un_neg pe_int) (fun _ _ => rfl)) pe_int (fun _ _ => rfl)) (pe_call (ok_law_apart T) (hr.mono (by decide)) rfl T.m_law_apart T.F_law_apart.kp T.b_law_apart .nil pass0 (pa_cons (pv 4) (pa_cons (pe_ix ix_tup (pe_ix ix_list (pv 1) (pe_ix ix_list (pv 2) (pe_un un_neg pe_int) (fun _ _ => rfl)) (fun _ _ => rfl)) pe_int (fun _ _ => rfl)) (pa_cons (pv 5) pa_nil))))))) pss_nil)
    (pss_one (ps_ret (pe_and (pe_call (ok_law_alike T) (hr.mono (by decide)) rfl T.m_law_alike T.F_law_alike.kp T.b_law_alike .nil pass0 (pa_cons (pe_call (ok_law_told T) (hr.mono (by decide)) rfl T.m_law_told T.F_law_told.kp T.b_law_told .nil pass0 (pa_cons (pv 0) (pa_cons (pv 3) pa_nil))) (pa_cons (pv 9) pa_nil))) (pe_and (pe_call (ok_law_whole T) (hr.mono (by decide)) rfl T.m_law_whole T.F_law_whole.kp T.b_law_whole .nil pass0 (pa_cons (pv 8) pa_nil)) (pe_one (pe_cmpR op_eq (pv 8) (pv 10) (nomark _)))))))))))))))))))), ?_⟩
  obtain ⟨⟨dx, k1⟩, k2, k3, k4⟩ := id hD
  have ls : (ps2.map V.ref).length = sts.length := by rw [List.length_map]; exact hP2.len
  walk_at "go"
  refine ⟨d, _, dx, _, _, rfl, k1, T.cl_Day, T.na_Day_road, rfl, ?_⟩
  walk_at "go"
  refine ⟨d, _, dx, _, _, rfl, k1, T.cl_Day, T.na_Day_home, rfl, ?_⟩
  walk_at "go"
  refine ⟨d, _, dx, _, _, rfl, k1, T.cl_Day, T.na_Day_start, rfl, ?_⟩
  walk_at "go"
  refine ⟨d, hd, r, l, ring, len, home, start, ps, sts, ns, rfl, hD, hHd, hz, hl0, fun bad H1 e1 => ?_, fun ok ms H1 e1 => ?_, fun ok rs hrs fl qs H1 e1 frl hfl hfq => ?_⟩
  · walk_at "go"
    refine ⟨d, hd, r, l, ring, len, home, start, ps, sts, ns, rfl, hD.ex e1, Evl.ex_l e1 hHd, hz, hl0, fun _ H2 e2 => ?_, fun ok => absurd ok bad, fun ok => absurd ok bad⟩
    have e12 := e1.trans e2
    walk_at "go"
    refine ⟨intsD ns, intsD ns, ints_dp (Evl.ex_l e12 hHd), ints_dp (Evl.ex_l e12 hO), shaped_ints _, shaped_ints _, ?_⟩
    rw [eqv_self (shaped_ints _)]
    obtain ⟨⟨dx2, m1⟩, m2, m3, m4⟩ := id (hD.ex e12)
    have hSl2 := Evl.ex_l e12 hSl
    walk_at "go"
    refine ⟨d, _, dx2, _, _, rfl, m1, T.cl_Day, T.na_Day_stops, rfl, ?_⟩
    walk_at "go"
    refine ⟨stopsD sts, stopsD sts, stops_dp (SqL.of m3) m4, stops_dp hSl2 (hP2.ex e12), shaped_stops _, shaped_stops _, ?_⟩
    rw [eqv_self (shaped_stops _)]
    walk_at "go"
    refine ⟨d, _, dx2, _, _, rfl, m1, T.cl_Day, T.na_Day_road, rfl, ?_⟩
    walk_at "go"
    refine ⟨d, _, dx2, _, _, rfl, m1, T.cl_Day, T.na_Day_home, rfl, ?_⟩
    walk_at "go"
    refine ⟨d, _, dx2, _, _, rfl, m1, T.cl_Day, T.na_Day_start, rfl, ?_⟩
    walk_at "go"
    intro t1 ht1
    walk_at "go"
    intro t2 ht2
    have e23 : Ex H2 (upd (upd H2 t1 (.tup [.ref r, .int home, .int start])) t2 (.tup [.ref r, .int home, .int start])) := (Evl.Ex.new ht1).trans (Evl.Ex.new ht2)
    have hT1 : SqT K (upd (upd H2 t1 (.tup [.ref r, .int home, .int start])) t2 (.tup [.ref r, .int home, .int start])) t1 [.ref r, .int home, .int start] := Evl.ex_t (Evl.Ex.new ht2) (SqT.of upd_same)
    have hT2 : SqT K (upd (upd H2 t1 (.tup [.ref r, .int home, .int start])) t2 (.tup [.ref r, .int home, .int start])) t2 [.ref r, .int home, .int start] := SqT.of upd_same
    generalize upd (upd H2 t1 (.tup [.ref r, .int home, .int start])) t2 (.tup [.ref r, .int home, .int start]) = H3 at e23 hT1 hT2
    have e13 := e12.trans e23
    have m2' : SqT K H3 r (roadV ring len) := Evl.ex_t e23 m2
    refine ⟨partsD ring len home start, partsD ring len home start, parts_dp hT1 m2', parts_dp hT2 m2', shaped_parts _ _ _ _, shaped_parts _ _ _ _, ?_⟩
    rw [eqv_self (shaped_parts _ _ _ _)]
    have hSl3 := Evl.ex_l e13 hSl
    have hO3 := Evl.ex_l e13 hO
    walk_at "go"
    refine ⟨o, (ps2.map V.ref).length, ns, rfl, hO3, fun _ => ?_, fun ok => absurd (by rw [ls] at ok; exact ok) bad⟩
    walk_at "go"
    refine ⟨.str "order", .str "order", .str _, .str _, shaped_order, shaped_order, ?_⟩
    rw [eqv_self shaped_order]
    walk_at "go"
    exact q _ e13
  · walk_at "go"
    refine ⟨d, hd, r, l, ring, len, home, start, ps, sts, ns, rfl, hD.ex e1, Evl.ex_l e1 hHd, hz, hl0, fun bad => absurd ok bad, fun _ _ H2 e2 => ?_, fun _ rs hrs => (by rw [ms] at hrs; cases hrs)⟩
    have e12 := e1.trans e2
    walk_at "go"
    refine ⟨intsD ns, intsD ns, ints_dp (Evl.ex_l e12 hHd), ints_dp (Evl.ex_l e12 hO), shaped_ints _, shaped_ints _, ?_⟩
    rw [eqv_self (shaped_ints _)]
    obtain ⟨⟨dx2, m1⟩, m2, m3, m4⟩ := id (hD.ex e12)
    have hSl2 := Evl.ex_l e12 hSl
    walk_at "go"
    refine ⟨d, _, dx2, _, _, rfl, m1, T.cl_Day, T.na_Day_stops, rfl, ?_⟩
    walk_at "go"
    refine ⟨stopsD sts, stopsD sts, stops_dp (SqL.of m3) m4, stops_dp hSl2 (hP2.ex e12), shaped_stops _, shaped_stops _, ?_⟩
    rw [eqv_self (shaped_stops _)]
    walk_at "go"
    refine ⟨d, _, dx2, _, _, rfl, m1, T.cl_Day, T.na_Day_road, rfl, ?_⟩
    walk_at "go"
    refine ⟨d, _, dx2, _, _, rfl, m1, T.cl_Day, T.na_Day_home, rfl, ?_⟩
    walk_at "go"
    refine ⟨d, _, dx2, _, _, rfl, m1, T.cl_Day, T.na_Day_start, rfl, ?_⟩
    walk_at "go"
    intro t1 ht1
    walk_at "go"
    intro t2 ht2
    have e23 : Ex H2 (upd (upd H2 t1 (.tup [.ref r, .int home, .int start])) t2 (.tup [.ref r, .int home, .int start])) := (Evl.Ex.new ht1).trans (Evl.Ex.new ht2)
    have hT1 : SqT K (upd (upd H2 t1 (.tup [.ref r, .int home, .int start])) t2 (.tup [.ref r, .int home, .int start])) t1 [.ref r, .int home, .int start] := Evl.ex_t (Evl.Ex.new ht2) (SqT.of upd_same)
    have hT2 : SqT K (upd (upd H2 t1 (.tup [.ref r, .int home, .int start])) t2 (.tup [.ref r, .int home, .int start])) t2 [.ref r, .int home, .int start] := SqT.of upd_same
    generalize upd (upd H2 t1 (.tup [.ref r, .int home, .int start])) t2 (.tup [.ref r, .int home, .int start]) = H3 at e23 hT1 hT2
    have e13 := e12.trans e23
    have m2' : SqT K H3 r (roadV ring len) := Evl.ex_t e23 m2
    refine ⟨partsD ring len home start, partsD ring len home start, parts_dp hT1 m2', parts_dp hT2 m2', shaped_parts _ _ _ _, shaped_parts _ _ _ _, ?_⟩
    rw [eqv_self (shaped_parts _ _ _ _)]
    have hSl3 := Evl.ex_l e13 hSl
    have hO3 := Evl.ex_l e13 hO
    walk_at "go"
    refine ⟨o, (ps2.map V.ref).length, ns, rfl, hO3, fun bad => absurd ok (by rw [ls] at bad; exact bad), fun _ => ?_⟩
    walk_at "go"
    refine ⟨r, sl, o, ring, len, home, start, ps2, sts, ns, (), rfl, m2', hSl3, hP2.ex e13, hO3, hz, hl0, hh, hg, ok.1, fun _ H4 e34 => ?_, fun rs hrs => (by rw [ms] at hrs; cases hrs)⟩
    walk_at "go"
    refine ⟨.str "missed", .str "missed", .str _, .str _, shaped_missed, shaped_missed, ?_⟩
    rw [eqv_self shaped_missed]
    walk_at "go"
    exact q _ (e13.trans e34)
  · walk_at "go"
    refine ⟨d, hd, r, l, ring, len, home, start, ps, sts, ns, rfl, hD.ex e1, Evl.ex_l e1 hHd, hz, hl0, fun bad => absurd ok bad, fun _ ms => (by rw [ms] at hrs; cases hrs), fun _ rs2 hrs2 H2 e2 => ?_⟩
    obtain rfl : rs = rs2 := Option.some.inj (hrs.symm.trans hrs2)
    have e12 := e1.trans e2
    walk_at "go"
    refine ⟨intsD ns, intsD ns, ints_dp (Evl.ex_l e12 hHd), ints_dp (Evl.ex_l e12 hO), shaped_ints _, shaped_ints _, ?_⟩
    rw [eqv_self (shaped_ints _)]
    obtain ⟨⟨dx2, m1⟩, m2, m3, m4⟩ := id (hD.ex e12)
    have hSl2 := Evl.ex_l e12 hSl
    walk_at "go"
    refine ⟨d, _, dx2, _, _, rfl, m1, T.cl_Day, T.na_Day_stops, rfl, ?_⟩
    walk_at "go"
    refine ⟨stopsD sts, stopsD sts, stops_dp (SqL.of m3) m4, stops_dp hSl2 (hP2.ex e12), shaped_stops _, shaped_stops _, ?_⟩
    rw [eqv_self (shaped_stops _)]
    walk_at "go"
    refine ⟨d, _, dx2, _, _, rfl, m1, T.cl_Day, T.na_Day_road, rfl, ?_⟩
    walk_at "go"
    refine ⟨d, _, dx2, _, _, rfl, m1, T.cl_Day, T.na_Day_home, rfl, ?_⟩
    walk_at "go"
    refine ⟨d, _, dx2, _, _, rfl, m1, T.cl_Day, T.na_Day_start, rfl, ?_⟩
    walk_at "go"
    intro t1 ht1
    walk_at "go"
    intro t2 ht2
    have e23 : Ex H2 (upd (upd H2 t1 (.tup [.ref r, .int home, .int start])) t2 (.tup [.ref r, .int home, .int start])) := (Evl.Ex.new ht1).trans (Evl.Ex.new ht2)
    have hT1 : SqT K (upd (upd H2 t1 (.tup [.ref r, .int home, .int start])) t2 (.tup [.ref r, .int home, .int start])) t1 [.ref r, .int home, .int start] := Evl.ex_t (Evl.Ex.new ht2) (SqT.of upd_same)
    have hT2 : SqT K (upd (upd H2 t1 (.tup [.ref r, .int home, .int start])) t2 (.tup [.ref r, .int home, .int start])) t2 [.ref r, .int home, .int start] := SqT.of upd_same
    generalize upd (upd H2 t1 (.tup [.ref r, .int home, .int start])) t2 (.tup [.ref r, .int home, .int start]) = H3 at e23 hT1 hT2
    have e13 := e12.trans e23
    have m2' : SqT K H3 r (roadV ring len) := Evl.ex_t e23 m2
    refine ⟨partsD ring len home start, partsD ring len home start, parts_dp hT1 m2', parts_dp hT2 m2', shaped_parts _ _ _ _, shaped_parts _ _ _ _, ?_⟩
    rw [eqv_self (shaped_parts _ _ _ _)]
    have hSl3 := Evl.ex_l e13 hSl
    have hO3 := Evl.ex_l e13 hO
    walk_at "go"
    refine ⟨o, (ps2.map V.ref).length, ns, rfl, hO3, fun bad => absurd ok (by rw [ls] at bad; exact bad), fun _ => ?_⟩
    walk_at "go"
    refine ⟨r, sl, o, ring, len, home, start, ps2, sts, ns, (), rfl, m2', hSl3, hP2.ex e13, hO3, hz, hl0, hh, hg, ok.1, fun ms => (by rw [ms] at hrs; cases hrs), fun rs2 hrs2 gl gs H4 e34 fgl hgl hgs => ?_⟩
    obtain rfl : rs = rs2 := Option.some.inj (hrs.symm.trans hrs2)
    have e14 := e13.trans e34
    have e24 := e2.trans (e23.trans e34)
    have hfl4 := e24 _ _ hfl
    have hfq4 := hfq.ex e24
    walk_at "go"
    have lrs : rs.length ≤ 4000 := by rw [rows_len hrs]; exact hz
    refine ⟨fl, gl, qs, gs, rs, rfl, hfl4, hgl, hfq4, hgs, lrs, ?_⟩
    walk_at "go"
    refine ⟨Or.inl ⟨rfl, _, SqL.of hfl4⟩, ?_⟩
    walk_at "go"
    intro p hp
    have nfp : fl ≠ p := ne_of_none hfl4 hp
    have hfl5 : (upd H4 p (.tup [.int 0, .int 0, .int 0])) fl = some (.lst (qs.map V.ref)) := by rw [upd_ne nfp]; exact hfl4
    refine ⟨fl, _, _, rfl, rfl, hfl5, Evl.sz_lt (by rw [List.length_map, hfq.len]; omega), ?_⟩
    have e15 : Ex H (upd (upd H4 p (.tup [.int 0, .int 0, .int 0])) fl (.lst (qs.map V.ref ++ [.ref p]))) := Evl.Ex.mut (e14.trans (Evl.Ex.new hp)) frl
    have ngf : gl ≠ fl := fun z => by
      have z2 := (e2.trans e23) _ _ hfl
      rw [← z, fgl] at z2
      cases z2
    have hgl5 : (upd (upd H4 p (.tup [.int 0, .int 0, .int 0])) fl (.lst (qs.map V.ref ++ [.ref p]))) gl = some (.lst (gs.map V.ref)) := by
      rw [upd_ne ngf]
      exact (Evl.Ex.new hp) _ _ hgl
    have hgs5 : RowsR (upd (upd H4 p (.tup [.int 0, .int 0, .int 0])) fl (.lst (qs.map V.ref ++ [.ref p]))) gs rs := RowsR.at_lst hfl5 (hgs.ex (Evl.Ex.new hp))
    generalize upd (upd H4 p (.tup [.int 0, .int 0, .int 0])) fl (.lst (qs.map V.ref ++ [.ref p])) = H5 at e15 hgl5 hgs5
    walk_at "go"
    have lgs : (gs.map V.ref).length = ns.length := by rw [List.length_map, hgs5.len]; exact rows_len hrs
    have hR5 : SqT K H5 r (roadV ring len) := Evl.ex_t e15 k2
    have hSl5 := Evl.ex_l e15 hSl
    have hO5 := Evl.ex_l e15 hO
    refine ⟨fun σ' H' => σ' = [some (.ref d), some (.ref sl), some (.ref o), some (.ref hd), some (.ref r), some (.int home), some (.int start), some (.ref fl), some (.int (endOf ring len sts home start ns rs)), some (.ref gl), some (.int (endOf ring len sts home start ns rs))] ∧ H' = H5, ?_, ?_⟩
    · walk_at "go"
      refine iteB (fun c => ?_) (fun c => ?_)
      · have c1 := of_decide_eq_true c
        rcases split_last ns with rfl | ⟨ns', n, rfl⟩
        · rw [lgs] at c1
          exact absurd c1 (by decide)
        rcases split_last rs with rfl | ⟨rs', x, rfl⟩
        · have := rows_len hrs
          simp at this
        obtain ⟨gs', pp, rfl, hpp⟩ := hgs5.last
        obtain ⟨n0, n1⟩ := ok.1 n (by simp)
        obtain ⟨t, ht, hT⟩ := stop_val (hP2.ex e15) n0 n1
        have a1 : atI ((gs' ++ [pp]).map V.ref) (-1) = some (.ref pp) := by rw [List.map_append]; exact atI_last _ _
        have a2 : atI ((ns' ++ [n]).map V.int) (-1) = some (.int n) := by rw [List.map_append]; exact atI_last _ _
        have b0 : atI (stopV (stAt sts n)) 0 = some (.int (stAt sts n).1) := rfl
        have b2 : atI (rowV x) 2 = some (.int x.2.2) := rfl
        rw [end_snoc]
        walk_at "go"
        refine ⟨r, ring, len, (stAt sts n).1, home, rfl, hR5, ?_⟩
        rw [lawApart_is hl0 (hg _ (stAt_mem n0 n1)).1 hh]
        walk_at "go"
        exact rfl
      · have c1 := of_decide_eq_false c
        rw [lgs] at c1
        obtain rfl : ns = [] := List.eq_nil_of_length_eq_zero (by omega)
        exact ⟨rfl, rfl⟩
    rintro σ' H6 ⟨rfl, rfl⟩
    walk_at "go"
    refine ⟨d, hd, r, l, ring, len, home, start, ps, sts, ns, rfl, hD.ex e15, Evl.ex_l e15 hHd, hz, hl0, fun bad => absurd ok bad, fun _ ms => (by rw [ms] at hrs; cases hrs), fun _ rs2 hrs2 f2 q2 H7 e67 frf2 hf2 hq2 => ?_⟩
    obtain rfl : rs = rs2 := Option.some.inj (hrs.symm.trans hrs2)
    walk_at "go"
    refine ⟨f2, gl, q2, gs, rs, rfl, hf2, e67 _ _ hgl5, hq2, hgs5.ex e67, lrs, ?_⟩
    walk_at "go"
    refine Or.inl ⟨_, rfl, true, rfl, iteT ?_⟩
    walk_at "go"
    show Q (.bl (decide (V.int _ = V.int _))) _
    rw [decT rfl]
    exact q _ (e15.trans e67)
/-! #### law -/
def sp_law (K : PySem.W.Frag) : Sp := fun vs H Q _ => ∃ (a : Addr) (ns : List Int), vs = [.ref a] ∧ SqL K H a (ns.map V.int) ∧ ns.length ≤ 63 ∧ ∀ H', Q (.bl true) H'
theorem good_flt {ring : Bool} {len home start : Int} {sts : List Stp} (l1 : 1 ≤ len) (l2 : len ≤ 1000000000) (hh : onRoad ring len home) (ht : isTime start) (h7 : sts.length ≤ 7) (hg : ∀ s ∈ sts, goodStop ring len s) : dayFlt (wordOf ring) len home start sts = none := by
  have hw : decide (wordOf ring = "ring") = ring := by cases ring <;> decide +kernel
  have p1 : isRoad (wordOf ring) len := ⟨by cases ring <;> decide +kernel, l1, l2⟩
  have hs : ∀ r : List Stp, (∀ s ∈ r, goodStop ring len s) → stopsFlt ring len r = none := by
    intro r
    induction r with
    | nil => intro _; rfl
    | cons s r ih =>
      intro h
      obtain ⟨g1, g2, g3, g4, g5, g6⟩ := h s (List.mem_cons_self ..)
      have e : stopFlt ring len s = none := by
        unfold stopFlt
        rw [if_neg (fun z => z g1), if_neg (fun z => z ⟨⟨by omega, by omega⟩, ⟨by omega, by omega⟩, ⟨by omega, by omega⟩⟩), if_neg (by omega)]
      unfold stopsFlt
      rw [e]
      exact ih fun x hx => h x (List.mem_cons_of_mem _ hx)
  unfold dayFlt
  rw [hw, if_neg (fun z => z p1), if_neg (fun z => z hh), if_neg (fun z => z ht), if_neg (by omega), hs sts hg]
/-- the law's lists and its day, as they stand -/
def Rest (K : PySem.W.Frag) (H : Hp) (x r l sl g u D L : Addr) (ring : Bool) (len home start : Int) (ps : List Addr) (sts : List Stp) (gs us ts : List Int) : Prop :=
  DayAt K H x r l (wordOf ring) len home start ps sts ∧ H sl = some (.lst (ps.map V.ref)) ∧ H g = some (.lst (gs.map V.int)) ∧ H u = some (.lst (us.map V.int)) ∧ H D = some (.lst (ts.map V.int)) ∧ H L = some (.lst [.ref g, .ref u, .ref D])
section
variable {K : PySem.W.Frag} {H : Hp} {x r l sl g u D L : Addr} {ring : Bool} {len home start : Int} {ps : List Addr} {sts : List Stp} {gs us ts : List Int}
theorem Rest.ex {H' : Hp} (e : Ex H H') (h : Rest K H x r l sl g u D L ring len home start ps sts gs us ts) : Rest K H' x r l sl g u D L ring len home start ps sts gs us ts :=
  ⟨h.1.ex e, e _ _ h.2.1, e _ _ h.2.2.1, e _ _ h.2.2.2.1, e _ _ h.2.2.2.2.1, e _ _ h.2.2.2.2.2⟩
theorem Rest.put {p : Addr} {ys : List V} {o : HO} (hp : H p = some (.lst ys)) (n1 : l ≠ p) (n2 : sl ≠ p) (n3 : g ≠ p) (n4 : u ≠ p) (n5 : D ≠ p) (n6 : L ≠ p) (h : Rest K H x r l sl g u D L ring len home start ps sts gs us ts) : Rest K (upd H p o) x r l sl g u D L ring len home start ps sts gs us ts :=
  ⟨h.1.at_lst hp n1, by rw [upd_ne n2]; exact h.2.1, by rw [upd_ne n3]; exact h.2.2.1, by rw [upd_ne n4]; exact h.2.2.2.1, by rw [upd_ne n5]; exact h.2.2.2.2.1, by rw [upd_ne n6]; exact h.2.2.2.2.2⟩
end
theorem cut_one (ts : List Int) : ∃ us : List Int, cutV (ts.map V.int) none (some (1 : Int)) = us.map V.int ∧ us.length ≤ 1 := by
  cases ts with
  | nil => exact ⟨[], by decide +kernel, by decide⟩
  | cons t r =>
    have e := cut_to (xs := (t :: r).map V.int) (k := 1) (by rw [List.length_map, List.length_cons]; omega)
    refine ⟨(t :: r).take 1, ?_, by rw [List.length_take]; omega⟩
    rw [List.map_take]
    exact e
theorem neg_at {gs : List Int} {i : Nat} (h : i < gs.length) : ∃ z, atI (gs.map V.int) (-1 - (0 + (i : Int))) = some (.int z) := by
  have hl : (gs.map V.int).length = gs.length := List.length_map _
  have hk : gs.length - 1 - i < gs.length := by omega
  refine ⟨gs[gs.length - 1 - i], ?_⟩
  have e : ixN (gs.map V.int).length (-1 - (0 + (i : Int))) = some (gs.length - 1 - i) := by
    unfold ixN
    rw [hl, if_neg (by omega), if_pos (by omega)]
    congr 1
    omega
  unfold atI
  rw [e]
  show (gs.map V.int)[gs.length - 1 - i]? = _
  rw [List.getElem?_map, List.getElem?_eq_getElem hk]
  rfl
set_option maxHeartbeats 4000000 in
theorem ok_law (T : Txt K mg D) : FnOk P w K mg base CX0 8 (He.ga K "law") (D "law") ["_law_script"] (sp_law K) := by
  refine T.F_law.ok sc_law (fun vs H Q E h => ?_) (fun cdv A outer s H vs Q E hr h => ?_)
  · obtain ⟨_, _, rfl, _⟩ := h
    rfl
  obtain ⟨a, ns, rfl, hS, hn, q⟩ := h
  refine ⟨_, PSs.nox (pss_cons (ps_set (i := 1) sc_law.nd rfl (Or.inl rfl) (pe_call (ok_law_road_by T) (hr.mono (by decide)) rfl T.m_law_road_by T.F_law_road_by.kp T.b_law_road_by .nil pass0 (pa_cons (pe_call (ok_law_cell_at T) (hr.mono (by decide)) rfl T.m_law_cell_at T.F_law_cell_at.kp T.b_law_cell_at .nil pass0 (pa_cons (pv 0) (pa_cons pe_int pa_nil))) pa_nil)))
    (pss_cons (ps_set (i := 2) sc_law.nd rfl (Or.inl rfl) (pe_call (ok_law_place_by T) (hr.mono (by decide)) rfl T.m_law_place_by T.F_law_place_by.kp T.b_law_place_by .nil pass0 (pa_cons (pv 1) (pa_cons (pe_call (ok_law_cell_at T) (hr.mono (by decide)) rfl T.m_law_cell_at T.F_law_cell_at.kp T.b_law_cell_at .nil pass0 (pa_cons (pv 0) (pa_cons pe_int pa_nil))) pa_nil))))
    (pss_cons (ps_set (i := 3) sc_law.nd rfl (Or.inl rfl) (pe_call (ok_law_start_by T) (hr.mono (by decide)) rfl T.m_law_start_by T.F_law_start_by.kp T.b_law_start_by .nil pass0 (pa_cons (pv 1) (pa_cons (pe_call (ok_law_cell_at T) (hr.mono (by decide)) rfl T.m_law_cell_at T.F_law_cell_at.kp T.b_law_cell_at .nil pass0 (pa_cons (pv 0) (pa_cons pe_int pa_nil))) pa_nil))))
    (pss_cons (ps_set (i := 4) sc_law.nd rfl (Or.inl rfl) (pe_call (ok_law_stops_by T) (hr.mono (by decide)) rfl T.m_law_stops_by T.F_law_stops_by.kp T.b_law_stops_by .nil pass0 (pa_cons (pv 1) (pa_cons (pv 3) (pa_cons (pv 0) (pa_cons (pe_op op_mod (pe_call (ok_law_cell_at T) (hr.mono (by decide)) rfl T.m_law_cell_at T.F_law_cell_at.kp T.b_law_cell_at .nil pass0 (pa_cons (pv 0) (pa_cons pe_int pa_nil))) pe_int) pa_nil))))))
    (pss_cons (ps_asg (pe_call (ok_law_order_by T) (hr.mono (by decide)) rfl T.m_law_order_by T.F_law_order_by.kp T.b_law_order_by .nil pass0 (pa_cons (pv 0) (pa_cons (pe_callB call_len_seq rfl T.m_len PySem.boot_len (pa_cons (pv 4) pa_nil)) pa_nil))) (pg_tup rfl (pgs_cons (pg_name (i := 5) sc_law.nd rfl (Or.inr rfl)) (pgs_cons (pg_name (i := 6) sc_law.nd rfl (Or.inl rfl)) pgs_nil))))
    (pss_cons (ps_set (i := 7) sc_law.nd rfl (Or.inl rfl) (pe_make T.k_Day (ok_Day___init T) (hr.mono (by decide)) rfl T.m_Day T.b_Day___init .nil passL (pa_cons (pv 1) (pa_cons (pv 2) (pa_cons (pv 3) (pa_cons (pe_callTy call_list_of rfl T.m_list (by decide +kernel) (pa_cons (pv 4) pa_nil)) pa_nil))))))
    (pss_cons (ps_if (pt_cmpR (op_neD hr.units) (pe_tup (pa_cons (pe_fld (pv 7) rfl) (pa_cons (pe_fld (pv 7) rfl) (pa_cons (pe_fld (pv 7) rfl) pa_nil)))) (pe_tup (pa_cons (pv 1) (pa_cons (pv 2) (pa_cons (pv 3) pa_nil)))) (nomark _)) (pss_one (ps_ret pe_bl)) pss_nil)
    (pss_cons (ps_set (i := 8) sc_law.nd rfl (Or.inl rfl) (pe_callTy call_list_of rfl T.m_list (by decide +kernel) (pa_cons (pv 6) pa_nil)))
    (pss_cons (ps_if (pt_not (pt_val (pe_call (ok_law_right T) hr rfl T.m_law_right T.F_law_right.kp T.b_law_right .nil pass0 (pa_cons (pv 7) (pa_cons (pv 4) (pa_cons (pv 6) (pa_cons (pv 8) pa_nil))))))) (pss_one (ps_ret pe_bl)) pss_nil)
    (pss_cons (ps_setLc (i := 9) (own := [("_law_k", 10)]) (g := gName 10) (tt := tYes) rfl sc_law.nd rfl rfl (sw_true rfl rfl rfl (by decide +kernel)) (pi_range1 rfl T.m_range (pa_cons (pe_callB call_len_seq rfl T.m_len PySem.boot_len (pa_cons (pv 5) pa_nil)) pa_nil)) (blkOk_by (own := [("_law_k", 10)]) (N := N_law) (sc := defScope s_law) (by decide +kernel)) (fun _ _ _ _ _ => pg_name (i := 10) sc_law.nd rfl (Or.inl rfl)) (fun _ _ _ _ _ => pts_nil) (fun _ _ _ _ _ => (by refine' pe_eq (t' := ?tt) (pe_ix ix_list (pv 5) (pe_op op_sub (pe_un un_neg pe_int) (pv 10)) (fun _ _ => rfl)) ?qq; case qq => (first | (dsimp only [L2.Cx.blk]; done) | (dsimp only [L2.Cx.blk]; rfl) | rfl))))
    (pss_cons (ps_for PassesOwn.never rfl (pi_list (pe_lst (pa_cons (pv 5) (pa_cons (pe_slice sl_list (pv 9) po_none (po_some pe_int)) (pa_cons (pv 9) pa_nil))))) (pg_name (i := 11) sc_law.nd rfl (Or.inl rfl))
      (pss_cons (ps_expr (pe_bm0 PySem.F.plainAttrs_list PySem.F.slot_list_clear PySem.F.type_list_clear mt_clear (pv 8)))
      (pss_cons (ps_expr (pe_bm PySem.F.plainAttrs_list PySem.F.slot_list_extend PySem.F.type_list_extend mt_extend (pv 8) (pa_cons (pv 11) pa_nil)))
      (pss_one (ps_if (pt_not (pt_val (pe_call (ok_law_right T) hr rfl T.m_law_right T.F_law_right.kp T.b_law_right .nil pass0 (pa_cons (pv 7) (pa_cons (pv 4) (pa_cons (pv 11) (pa_cons (pv 8) pa_nil))))))) (pss_one (ps_ret pe_bl)) pss_nil)))))
    (pss_one (ps_ret (pe_cmpR (op_eqD hr.units) (pe_tup (pa_cons (pe_fld (pv 7) rfl) (pa_cons (pe_fld (pv 7) rfl) (pa_cons (pe_fld (pv 7) rfl) pa_nil)))) (pe_tup (pa_cons (pv 1) (pa_cons (pv 2) (pa_cons (pv 3) pa_nil)))) (nomark _))))))))))))))), ?_⟩
  walk_at "go"
  refine ⟨a, ns, 0, rfl, hS, hn, fun c0 => ?_⟩
  walk_at "go"
  intro ring len r H1 l1 l2 e1 fr hr0
  have hR1 : SqT K H1 r (roadV ring len) := SqT.of hr0
  walk_at "go"
  refine ⟨a, ns, 1, rfl, Evl.ex_l e1 hS, hn, fun c1 => ?_⟩
  walk_at "go"
  refine ⟨r, ring, len, c1, rfl, hR1, l1, fun home H2 h0 h1 e2 => ?_⟩
  have e12 := e1.trans e2
  have hR2 := Evl.ex_t e2 hR1
  walk_at "go"
  refine ⟨a, ns, 2, rfl, Evl.ex_l e12 hS, hn, fun c2 => ?_⟩
  walk_at "go"
  refine ⟨r, ring, len, c2, rfl, hR2, l1, l2, fun start s0 s1 => ?_⟩
  walk_at "go"
  refine ⟨a, ns, 3, rfl, Evl.ex_l e12 hS, hn, fun c3 => ?_⟩
  have m0 := Int.emod_nonneg c3 (show (8 : Int) ≠ 0 by decide)
  have m1 := Int.emod_lt_of_pos c3 (show (0 : Int) < 8 by decide)
  walk_at "go"
  refine ⟨r, a, ring, len, start, c3 % 8, ns, rfl, hR2, l1, l2, s0, s1, Evl.ex_l e12 hS, hn, m0, by omega, fun sts ps sl H3 lst gd e3 fsl hsl hP => ?_⟩
  have e13 := e12.trans e3
  have lps : (ps.map V.ref).length = sts.length := by rw [List.length_map]; exact hP.len
  have h7 : sts.length ≤ 7 := by omega
  have hsl3 : SqL K H3 sl (ps.map V.ref) := SqL.of hsl
  walk_at "go"
  refine ⟨a, (ps.map V.ref).length, ns, rfl, Evl.ex_l e13 hS, hn, by omega, fun g o tp gs os H4 lg lo e4 fg hg4 ho4 htp => ?_⟩
  have e14 := e13.trans e4
  have hsl4 := e4 _ _ hsl
  have hsl4s : SqL K H4 sl (ps.map V.ref) := SqL.of hsl4
  walk_at "go"
  intro sd hsd
  walk_at "go"
  intro x dx hx hdx ne
  have e45 := Evl.Ex.new (o := .lst (ps.map V.ref)) hsd
  have hsd5 : (upd H4 sd (.lst (ps.map V.ref))) sd = some (.lst (ps.map V.ref)) := upd_same
  generalize upd H4 sd (.lst (ps.map V.ref)) = H5 at e45 hsd5 hx hdx
  have e15 := e14.trans e45
  have e25 : Ex H2 H5 := e3.trans (e4.trans e45)
  have e35 : Ex H3 H5 := e4.trans e45
  have e56 : Ex H5 (upd (upd H5 dx (.own x)) x (.ins (He.ga K "Day") dx [])) := (Evl.Ex.new hdx).trans (Evl.Ex.new (by rw [upd_ne (Ne.symm ne)]; exact hx))
  have flt : dayFlt (wordOf ring) len home start sts = none := good_flt l1 l2 ⟨h0, h1⟩ ⟨s0, s1⟩ h7 gd
  refine ⟨x, dx, r, sd, wordOf ring, len, home, start, ps, sts, (), rfl, upd_same, Evl.ex_t (e25.trans e56) hR2, Evl.ex_l e56 (SqL.of hsd5), hP.ex (e35.trans e56), fun z l' H6 keep fr hd hl' => ⟨rfl, ?_⟩, fun f z => (by rw [flt] at z; cases z)⟩
  have ek : Ex H5 H6 := fun b o hb => keep b o (ne_of_none hb hx) (e56 b o hb)
  have day : DayAt K H6 x r l' (wordOf ring) len home start ps sts := ⟨⟨dx, hd⟩, Evl.ex_t (e25.trans ek) hR2, hl', hP.ex (e35.trans ek)⟩
  have hsl6 := (e45.trans ek) _ _ hsl4
  have ho6 := (e45.trans ek) _ _ ho4
  have hg6 := (e45.trans ek) _ _ hg4
  have hR6 := Evl.ex_t (e25.trans ek) hR2
  have hP6 := hP.ex (e35.trans ek)
  have e6 := e15.trans ek
  clear keep hl' hd
  obtain ⟨⟨dx6, k1⟩, k2, k3, k4⟩ := id day
  walk_at "go"
  refine ⟨x, _, dx6, _, _, rfl, k1, T.cl_Day, T.na_Day_road, rfl, ?_⟩
  walk_at "go"
  refine ⟨x, _, dx6, _, _, rfl, k1, T.cl_Day, T.na_Day_home, rfl, ?_⟩
  walk_at "go"
  refine ⟨x, _, dx6, _, _, rfl, k1, T.cl_Day, T.na_Day_start, rfl, ?_⟩
  walk_at "go"
  intro t1 ht1
  walk_at "go"
  intro t2 ht2
  have e67 : Ex H6 (upd (upd H6 t1 (.tup [.ref r, .int home, .int start])) t2 (.tup [.ref r, .int home, .int start])) := (Evl.Ex.new ht1).trans (Evl.Ex.new ht2)
  have hT1 : SqT K (upd (upd H6 t1 (.tup [.ref r, .int home, .int start])) t2 (.tup [.ref r, .int home, .int start])) t1 [.ref r, .int home, .int start] := Evl.ex_t (Evl.Ex.new ht2) (SqT.of upd_same)
  have hT2 : SqT K (upd (upd H6 t1 (.tup [.ref r, .int home, .int start])) t2 (.tup [.ref r, .int home, .int start])) t2 [.ref r, .int home, .int start] := SqT.of upd_same
  generalize upd (upd H6 t1 (.tup [.ref r, .int home, .int start])) t2 (.tup [.ref r, .int home, .int start]) = H7 at e67 hT1 hT2
  have hR7 : SqT K H7 r (roadV ring len) := Evl.ex_t e67 hR6
  refine ⟨partsD ring len home start, partsD ring len home start, parts_dp hT1 hR7, parts_dp hT2 hR7, shaped_parts _ _ _ _, shaped_parts _ _ _ _, ?_⟩
  rw [eqv_self (shaped_parts _ _ _ _)]
  have ho7 := e67 _ _ ho6
  have ho7s : SqL K H7 o (os.map V.int) := SqL.of ho7
  walk_at "go"
  intro hn8 hhn
  have e78 := Evl.Ex.new (o := .lst (os.map V.int)) hhn
  have hh8 : (upd H7 hn8 (.lst (os.map V.int))) hn8 = some (.lst (os.map V.int)) := upd_same
  generalize upd H7 hn8 (.lst (os.map V.int)) = H8 at e78 hh8
  have e68 := e67.trans e78
  have e8 := e6.trans e68
  walk_at "go"
  refine ⟨x, sl, o, hn8, r, l', ring, len, home, start, ps, rfl, ps, sts, os, day.ex e68, SqL.of (e68 _ _ hsl6), hP6.ex e68, SqL.of (e68 _ _ ho6), SqL.of hh8, by omega, by omega, ⟨h0, h1⟩, gd, h7, fun H9 e89 => ?_⟩
  walk_at "go"
  have hg9 := (e68.trans e89) _ _ hg6
  have hg9s : SqL K H9 g (gs.map V.int) := SqL.of hg9
  have hgl : (gs.map V.int).length = gs.length := List.length_map _
  walk_at "go"
  intro D hD
  refine lc_range (lo := 0) (n := (gs.map V.int).length) (fun i H' => ∃ ts : List Int, ts.length = i ∧ Ex H9 H' ∧ H' D = some (.lst (ts.map V.int))) ⟨[], rfl, Evl.Ex.new hD, upd_same⟩ ?_ ?_
  · rintro i H' hi ⟨ts, lt, et, hd⟩
    rw [hgl] at hi
    obtain ⟨z, hz⟩ := neg_at hi
    have hg' : SqL K H' g (gs.map V.int) := SqL.of (et _ _ hg9)
    walk_at "go"
    refine ⟨ts.map V.int, hd, Evl.sz_lt (by rw [List.length_map]; omega), ts ++ [z], ?_, Evl.Ex.mut et hD, ?_⟩
    · rw [List.length_append, lt]
      rfl
    · rw [upd_same, List.map_append]
      rfl
  rintro H10 ⟨ts, lt, et, hD10⟩
  rw [hgl] at lt
  have e8t := e89.trans et
  have hg10 := et _ _ hg9
  have hD10s : SqL K H10 D (ts.map V.int) := SqL.of hD10
  walk_at "go"
  intro u hu
  obtain ⟨us, cu, lu⟩ := cut_one ts
  have cu' : HO.lst (cutV (ts.map V.int) none (some (1 : Int))) = HO.lst (us.map V.int) := congrArg HO.lst cu
  rw [cu']
  walk_at "go"
  intro L hL
  have eA := (Evl.Ex.new (o := .lst (us.map V.int)) hu).trans (Evl.Ex.new (o := .lst [.ref g, .ref u, .ref D]) hL)
  have huA : (upd (upd H10 u (.lst (us.map V.int))) L (.lst [.ref g, .ref u, .ref D])) u = some (.lst (us.map V.int)) := (Evl.Ex.new hL) _ _ upd_same
  have hLA : (upd (upd H10 u (.lst (us.map V.int))) L (.lst [.ref g, .ref u, .ref D])) L = some (.lst [.ref g, .ref u, .ref D]) := upd_same
  have hh10 := e8t _ _ hh8
  have n4 : u ≠ hn8 := fun z => by rw [z, hh10] at hu; cases hu
  have n5 : D ≠ hn8 := fun z => by rw [z, e89 _ _ hh8] at hD; cases hD
  have n6 : L ≠ hn8 := fun z => by rw [z, (Evl.Ex.new hu) _ _ hh10] at hL; cases hL
  have n1 : l' ≠ hn8 := ne_of_none (e67 _ _ k3) hhn
  have n2 : sl ≠ hn8 := ne_of_none (e67 _ _ hsl6) hhn
  have n3 : g ≠ hn8 := ne_of_none (e67 _ _ hg6) hhn
  have e6A := e68.trans (e8t.trans eA)
  have rest : Rest K (upd (upd H10 u (.lst (us.map V.int))) L (.lst [.ref g, .ref u, .ref D])) x r l' sl g u D L ring len home start ps sts gs us ts := ⟨day.ex e6A, e6A _ _ hsl6, e6A _ _ hg6, huA, eA _ _ hD10, hLA⟩
  have hhA := eA _ _ hh10
  generalize upd (upd H10 u (.lst (us.map V.int))) L (.lst [.ref g, .ref u, .ref D]) = HA at rest hhA
  walk_at "go"
  have lgs' : gs.length ≤ 100 := lg
  have lts : ts.length ≤ 100 := by omega
  refine ⟨⟨_, SqL.of rest.2.2.2.2.2⟩, for_list (K := K) (a := L) (xs := [.ref g, .ref u, .ref D]) (fun i σ H' => ∃ (y : Option V) (zs : List Int), σ = [some (.ref a), some (.ref r), some (.int home), some (.int start), some (.ref sl), some (.ref g), some (.ref o), some (.ref x), some (.ref hn8), some (.ref D), none, y] ∧ zs.length ≤ 100 ∧ H' hn8 = some (.lst (zs.map V.int)) ∧ Rest K H' x r l' sl g u D L ring len home start ps sts gs us ts) ⟨none, os, rfl, lo, hhA, rest⟩ (fun i σ H' _ z => ?_) ?_ ?_⟩
  · obtain ⟨y, zs, rfl, lz, hz, rs⟩ := z
    exact SqL.of rs.2.2.2.2.2
  · rintro i v σ H' hi ⟨y, zs, rfl, lz, hz, rs⟩
    obtain ⟨w, ws, rfl, hw, lw, nw⟩ : ∃ (w : Addr) (ws : List Int), v = .ref w ∧ H' w = some (.lst (ws.map V.int)) ∧ ws.length ≤ 100 ∧ w ≠ hn8 := by
      have m := List.mem_of_getElem? hi
      rcases List.mem_cons.mp m with e | m
      · exact ⟨g, gs, e, rs.2.2.1, lgs', n3⟩
      rcases List.mem_cons.mp m with e | m
      · exact ⟨u, us, e, rs.2.2.2.1, by omega, n4⟩
      rcases List.mem_cons.mp m with e | m
      · exact ⟨D, ts, e, rs.2.2.2.2.1, lts, n5⟩
      cases m
    walk_at "go"
    refine ⟨Or.inl ⟨rfl, _, SqL.of hz⟩, ?_⟩
    walk_at "go"
    refine ⟨hn8, _, rfl, rfl, hz, ?_⟩
    have hw2 : (upd H' hn8 (.lst [])) w = some (.lst (ws.map V.int)) := by rw [upd_ne nw]; exact hw
    have hh2 : (upd H' hn8 (.lst [])) hn8 = some (.lst []) := upd_same
    have rs2 := rs.put (o := .lst []) hz n1 n2 n3 n4 n5 n6
    generalize upd H' hn8 (.lst []) = H2' at hw2 hh2 rs2
    walk_at "go"
    refine ⟨Or.inl ⟨rfl, _, SqL.of hh2⟩, ?_⟩
    walk_at "go"
    refine ⟨Evl.sz_of (by rw [List.length_map]; show 0 + ws.length ≤ 100000; omega), ?_⟩
    have hw3 : (upd H2' hn8 (.lst ([] ++ ws.map V.int))) w = some (.lst (ws.map V.int)) := by rw [upd_ne nw]; exact hw2
    have hh3 : (upd H2' hn8 (.lst ([] ++ ws.map V.int))) hn8 = some (.lst (ws.map V.int)) := upd_same
    have rs3 := rs2.put (o := .lst ([] ++ ws.map V.int)) hh2 n1 n2 n3 n4 n5 n6
    generalize upd H2' hn8 (.lst ([] ++ ws.map V.int)) = H3' at hw3 hh3 rs3
    walk_at "go"
    refine ⟨x, sl, w, hn8, r, l', ring, len, home, start, ps, rfl, ps, sts, ws, rs3.1, SqL.of rs3.2.1, rs3.1.2.2.2, SqL.of hw3, SqL.of hh3, by omega, by omega, ⟨h0, h1⟩, gd, h7, fun H4' e4' => ?_⟩
    have rs4 := rs3.ex e4'
    have hh4 := e4' _ _ hh3
    exact ⟨true, rfl, iteFb rfl ⟨_, ws, rfl, lw, hh4, rs4⟩⟩
  rintro σ HZ ⟨y, zs, rfl, lz, hz, rs⟩
  obtain ⟨⟨dxZ, y1⟩, y2, y3, y4⟩ := id rs.1
  walk_at "go"
  refine ⟨x, _, dxZ, _, _, rfl, y1, T.cl_Day, T.na_Day_road, rfl, ?_⟩
  walk_at "go"
  refine ⟨x, _, dxZ, _, _, rfl, y1, T.cl_Day, T.na_Day_home, rfl, ?_⟩
  walk_at "go"
  refine ⟨x, _, dxZ, _, _, rfl, y1, T.cl_Day, T.na_Day_start, rfl, ?_⟩
  walk_at "go"
  intro s1' hs1
  walk_at "go"
  intro s2' hs2
  have eY : Ex HZ (upd (upd HZ s1' (.tup [.ref r, .int home, .int start])) s2' (.tup [.ref r, .int home, .int start])) := (Evl.Ex.new hs1).trans (Evl.Ex.new hs2)
  have hY1 : SqT K (upd (upd HZ s1' (.tup [.ref r, .int home, .int start])) s2' (.tup [.ref r, .int home, .int start])) s1' [.ref r, .int home, .int start] := Evl.ex_t (Evl.Ex.new hs2) (SqT.of upd_same)
  have hY2 : SqT K (upd (upd HZ s1' (.tup [.ref r, .int home, .int start])) s2' (.tup [.ref r, .int home, .int start])) s2' [.ref r, .int home, .int start] := SqT.of upd_same
  generalize upd (upd HZ s1' (.tup [.ref r, .int home, .int start])) s2' (.tup [.ref r, .int home, .int start]) = HY at eY hY1 hY2
  have hRY : SqT K HY r (roadV ring len) := Evl.ex_t eY y2
  refine ⟨partsD ring len home start, partsD ring len home start, parts_dp hY1 hRY, parts_dp hY2 hRY, shaped_parts _ _ _ _, shaped_parts _ _ _ _, ?_⟩
  rw [eqv_self (shaped_parts _ _ _ _)]
  exact q _
end

/-! ### the head -/
def d_is_road : He.DefD := ⟨("is_road", none), "is_road", "is_road", defArgs s_is_road, defBody s_is_road, defScope s_is_road, [], []⟩
def d_has_place : He.DefD := ⟨("has_place", none), "has_place", "has_place", defArgs s_has_place, defBody s_has_place, defScope s_has_place, [], []⟩
def d_apart : He.DefD := ⟨("apart", none), "apart", "apart", defArgs s_apart, defBody s_apart, defScope s_apart, [], []⟩
def d_way : He.DefD := ⟨("way", none), "way", "way", defArgs s_way, defBody s_way, defScope s_way, [], []⟩
def d_is_time : He.DefD := ⟨("is_time", none), "is_time", "is_time", defArgs s_is_time, defBody s_is_time, defScope s_is_time, [], []⟩
def d_check_stop : He.DefD := ⟨("check_stop", none), "check_stop", "check_stop", defArgs s_check_stop, defBody s_check_stop, defScope s_check_stop, [], []⟩
def d_check_day : He.DefD := ⟨("check_day", none), "check_day", "check_day", defArgs s_check_day, defBody s_check_day, defScope s_check_day, [], []⟩
def d_Day___init : He.DefD := ⟨("Day", some "__init__"), "__init__", "Day.__init__", defArgs s_Day___init, defBody s_Day___init, defScope s_Day___init, [], []⟩
def d_check_order : He.DefD := ⟨("check_order", none), "check_order", "check_order", defArgs s_check_order, defBody s_check_order, defScope s_check_order, [], []⟩
def d_visit : He.DefD := ⟨("visit", none), "visit", "visit", defArgs s_visit, defBody s_visit, defScope s_visit, [], []⟩
def d_timetable : He.DefD := ⟨("timetable", none), "timetable", "timetable", defArgs s_timetable, defBody s_timetable, defScope s_timetable, [], []⟩
def d_ends : He.DefD := ⟨("ends", none), "ends", "ends", defArgs s_ends, defBody s_ends, defScope s_ends, [], []⟩
def d_law_cell_at : He.DefD := ⟨("_law_cell_at", none), "_law_cell_at", "_law_cell_at", defArgs s_law_cell_at, defBody s_law_cell_at, defScope s_law_cell_at, [], []⟩
def d_law_wide : He.DefD := ⟨("_law_wide", none), "_law_wide", "_law_wide", defArgs s_law_wide, defBody s_law_wide, defScope s_law_wide, [], []⟩
def d_law_whole : He.DefD := ⟨("_law_whole", none), "_law_whole", "_law_whole", defArgs s_law_whole, defBody s_law_whole, defScope s_law_whole, [], []⟩
def d_law_road_by : He.DefD := ⟨("_law_road_by", none), "_law_road_by", "_law_road_by", defArgs s_law_road_by, defBody s_law_road_by, defScope s_law_road_by, [], []⟩
def d_law_places : He.DefD := ⟨("_law_places", none), "_law_places", "_law_places", defArgs s_law_places, defBody s_law_places, defScope s_law_places, [], []⟩
def d_law_place_by : He.DefD := ⟨("_law_place_by", none), "_law_place_by", "_law_place_by", defArgs s_law_place_by, defBody s_law_place_by, defScope s_law_place_by, [], []⟩
def d_law_apart : He.DefD := ⟨("_law_apart", none), "_law_apart", "_law_apart", defArgs s_law_apart, defBody s_law_apart, defScope s_law_apart, [], []⟩
def d_law_start_by : He.DefD := ⟨("_law_start_by", none), "_law_start_by", "_law_start_by", defArgs s_law_start_by, defBody s_law_start_by, defScope s_law_start_by, [], []⟩
def d_law_stop_by : He.DefD := ⟨("_law_stop_by", none), "_law_stop_by", "_law_stop_by", defArgs s_law_stop_by, defBody s_law_stop_by, defScope s_law_stop_by, [], []⟩
def d_law_stops_by : He.DefD := ⟨("_law_stops_by", none), "_law_stops_by", "_law_stops_by", defArgs s_law_stops_by, defBody s_law_stops_by, defScope s_law_stops_by, [], []⟩
def d_law_order_by : He.DefD := ⟨("_law_order_by", none), "_law_order_by", "_law_order_by", defArgs s_law_order_by, defBody s_law_order_by, defScope s_law_order_by, [], []⟩
def d_law_bad : He.DefD := ⟨("_law_bad", none), "_law_bad", "_law_bad", defArgs s_law_bad, defBody s_law_bad, defScope s_law_bad, [], []⟩
def d_law_rows : He.DefD := ⟨("_law_rows", none), "_law_rows", "_law_rows", defArgs s_law_rows, defBody s_law_rows, defScope s_law_rows, [], []⟩
def d_law_told : He.DefD := ⟨("_law_told", none), "_law_told", "_law_told", defArgs s_law_told, defBody s_law_told, defScope s_law_told, [], []⟩
def d_law_ended : He.DefD := ⟨("_law_ended", none), "_law_ended", "_law_ended", defArgs s_law_ended, defBody s_law_ended, defScope s_law_ended, [], []⟩
def d_law_alike : He.DefD := ⟨("_law_alike", none), "_law_alike", "_law_alike", defArgs s_law_alike, defBody s_law_alike, defScope s_law_alike, [], []⟩
def d_law_right : He.DefD := ⟨("_law_right", none), "_law_right", "_law_right", defArgs s_law_right, defBody s_law_right, defScope s_law_right, [], []⟩
def d_law : He.DefD := ⟨("law", none), "law", "law", defArgs s_law, defBody s_law, defScope s_law, [], []⟩
def fn : List He.DefD := [d_is_road, d_has_place, d_apart, d_way, d_is_time, d_check_stop, d_check_day, d_Day___init, d_check_order, d_visit, d_timetable, d_ends, d_law_cell_at, d_law_wide, d_law_whole, d_law_road_by, d_law_places, d_law_place_by, d_law_apart, d_law_start_by, d_law_stop_by, d_law_stops_by, d_law_order_by, d_law_bad, d_law_rows, d_law_told, d_law_ended, d_law_alike, d_law_right, d_law]
abbrev fa : List He.Fa := [.glo "is_road", .glo "has_place", .glo "apart", .glo "way", .glo "is_time", .glo "check_stop", .glo "check_day", .glo "check_order", .glo "visit", .glo "timetable", .glo "ends", .glo "_law_cell_at", .glo "_law_wide", .glo "_law_whole", .glo "_law_road_by", .glo "_law_places", .glo "_law_place_by", .glo "_law_apart", .glo "_law_start_by", .glo "_law_stop_by", .glo "_law_stops_by", .glo "_law_order_by", .glo "_law_bad", .glo "_law_rows", .glo "_law_told", .glo "_law_ended", .glo "_law_alike", .glo "_law_right", .glo "law", .glo "RouteError", .exc "RouteError", .glo "BadRoad", .exc "BadRoad", .glo "OffRoad", .exc "OffRoad", .glo "BadTime", .exc "BadTime", .glo "TooMany", .exc "TooMany", .glo "BadOrder", .exc "BadOrder", .glo "Missed", .exc "Missed", .glo "NoDay", .exc "NoDay", .glo "Day", .cls "Day", .mkr "Day", .noat "Day" "home", .noat "Day" "road", .noat "Day" "start", .noat "Day" "stops", .exm "OffRoad" "BadOrder" false, .exm "OffRoad" "Missed" false, .exm "OffRoad" "RouteError" true, .exm "BadTime" "BadOrder" false, .exm "BadTime" "Missed" false, .exm "BadTime" "RouteError" true, .exm "BadRoad" "BadOrder" false, .exm "BadRoad" "Missed" false, .exm "BadRoad" "RouteError" true, .exm "TooMany" "BadOrder" false, .exm "TooMany" "Missed" false, .exm "TooMany" "RouteError" true, .exm "BadOrder" "BadOrder" true, .exm "BadOrder" "Missed" false, .exm "BadOrder" "RouteError" true, .exm "Missed" "BadOrder" false, .exm "Missed" "Missed" true, .exm "Missed" "RouteError" true, .str "LINE" "line", .str "RING" "ring", .int "LONGEST" 1000000000, .int "LATEST" 1000000000000, .int "MOST_STOPS" 7, .free "abs", .free "max", .free "min", .free "list", .free "range", .free "len", .free "isinstance", .free "int", .free "set", .free "bool", .free "tuple", .free "ValueError"]
def exl (K : PySem.W.Frag) : List Bool := [excCB K (He.ga K "OffRoad"), excCB K (He.ga K "BadTime"), excCB K (He.ga K "BadRoad"), excCB K (He.ga K "TooMany"), excCB K (He.ga K "BadOrder"), excCB K (He.ga K "Missed"), decide (PySem.W.kitOne K (.ref (He.ga K "OffRoad")) (.ref (He.ga K "BadRoad")) = some false), decide (PySem.W.kitOne K (.ref (He.ga K "OffRoad")) (.ref (He.ga K "OffRoad")) = some true), decide (PySem.W.kitOne K (.ref (He.ga K "OffRoad")) (.ref (He.ga K "BadTime")) = some false), decide (PySem.W.kitOne K (.ref (He.ga K "OffRoad")) (.ref (He.ga K "TooMany")) = some false), decide (PySem.W.kitOne K (.ref (He.ga K "OffRoad")) (.ref (He.ga K "NoDay")) = some false), decide (PySem.W.kitOne K (.ref (He.ga K "OffRoad")) (.ref (He.ga K "BadOrder")) = some false), decide (PySem.W.kitOne K (.ref (He.ga K "OffRoad")) (.ref (He.ga K "Missed")) = some false), decide (PySem.W.kitOne K (.ref (He.ga K "OffRoad")) (.type "ValueError") = some true), decide (PySem.W.kitOne K (.ref (He.ga K "BadTime")) (.ref (He.ga K "BadRoad")) = some false), decide (PySem.W.kitOne K (.ref (He.ga K "BadTime")) (.ref (He.ga K "OffRoad")) = some false), decide (PySem.W.kitOne K (.ref (He.ga K "BadTime")) (.ref (He.ga K "BadTime")) = some true), decide (PySem.W.kitOne K (.ref (He.ga K "BadTime")) (.ref (He.ga K "TooMany")) = some false), decide (PySem.W.kitOne K (.ref (He.ga K "BadTime")) (.ref (He.ga K "NoDay")) = some false), decide (PySem.W.kitOne K (.ref (He.ga K "BadTime")) (.ref (He.ga K "BadOrder")) = some false), decide (PySem.W.kitOne K (.ref (He.ga K "BadTime")) (.ref (He.ga K "Missed")) = some false), decide (PySem.W.kitOne K (.ref (He.ga K "BadTime")) (.type "ValueError") = some true), decide (PySem.W.kitOne K (.ref (He.ga K "BadRoad")) (.ref (He.ga K "BadRoad")) = some true), decide (PySem.W.kitOne K (.ref (He.ga K "BadRoad")) (.ref (He.ga K "OffRoad")) = some false), decide (PySem.W.kitOne K (.ref (He.ga K "BadRoad")) (.ref (He.ga K "BadTime")) = some false), decide (PySem.W.kitOne K (.ref (He.ga K "BadRoad")) (.ref (He.ga K "TooMany")) = some false), decide (PySem.W.kitOne K (.ref (He.ga K "BadRoad")) (.ref (He.ga K "NoDay")) = some false), decide (PySem.W.kitOne K (.ref (He.ga K "BadRoad")) (.ref (He.ga K "BadOrder")) = some false), decide (PySem.W.kitOne K (.ref (He.ga K "BadRoad")) (.ref (He.ga K "Missed")) = some false), decide (PySem.W.kitOne K (.ref (He.ga K "BadRoad")) (.type "ValueError") = some true), decide (PySem.W.kitOne K (.ref (He.ga K "TooMany")) (.ref (He.ga K "BadRoad")) = some false), decide (PySem.W.kitOne K (.ref (He.ga K "TooMany")) (.ref (He.ga K "OffRoad")) = some false), decide (PySem.W.kitOne K (.ref (He.ga K "TooMany")) (.ref (He.ga K "BadTime")) = some false), decide (PySem.W.kitOne K (.ref (He.ga K "TooMany")) (.ref (He.ga K "TooMany")) = some true), decide (PySem.W.kitOne K (.ref (He.ga K "TooMany")) (.ref (He.ga K "NoDay")) = some false), decide (PySem.W.kitOne K (.ref (He.ga K "TooMany")) (.ref (He.ga K "BadOrder")) = some false), decide (PySem.W.kitOne K (.ref (He.ga K "TooMany")) (.ref (He.ga K "Missed")) = some false), decide (PySem.W.kitOne K (.ref (He.ga K "TooMany")) (.type "ValueError") = some true), decide (PySem.W.kitOne K (.ref (He.ga K "BadOrder")) (.ref (He.ga K "BadRoad")) = some false), decide (PySem.W.kitOne K (.ref (He.ga K "BadOrder")) (.ref (He.ga K "OffRoad")) = some false), decide (PySem.W.kitOne K (.ref (He.ga K "BadOrder")) (.ref (He.ga K "BadTime")) = some false), decide (PySem.W.kitOne K (.ref (He.ga K "BadOrder")) (.ref (He.ga K "TooMany")) = some false), decide (PySem.W.kitOne K (.ref (He.ga K "BadOrder")) (.ref (He.ga K "NoDay")) = some false), decide (PySem.W.kitOne K (.ref (He.ga K "BadOrder")) (.ref (He.ga K "BadOrder")) = some true), decide (PySem.W.kitOne K (.ref (He.ga K "BadOrder")) (.ref (He.ga K "Missed")) = some false), decide (PySem.W.kitOne K (.ref (He.ga K "BadOrder")) (.type "ValueError") = some true), decide (PySem.W.kitOne K (.ref (He.ga K "Missed")) (.ref (He.ga K "BadRoad")) = some false), decide (PySem.W.kitOne K (.ref (He.ga K "Missed")) (.ref (He.ga K "OffRoad")) = some false), decide (PySem.W.kitOne K (.ref (He.ga K "Missed")) (.ref (He.ga K "BadTime")) = some false), decide (PySem.W.kitOne K (.ref (He.ga K "Missed")) (.ref (He.ga K "TooMany")) = some false), decide (PySem.W.kitOne K (.ref (He.ga K "Missed")) (.ref (He.ga K "NoDay")) = some false), decide (PySem.W.kitOne K (.ref (He.ga K "Missed")) (.ref (He.ga K "BadOrder")) = some false), decide (PySem.W.kitOne K (.ref (He.ga K "Missed")) (.ref (He.ga K "Missed")) = some true), decide (PySem.W.kitOne K (.ref (He.ga K "Missed")) (.type "ValueError") = some true)]
def ex (K : PySem.W.Frag) : Bool := (exl K).all id
theorem exAt {K : PySem.W.Frag} (h : ex K = true) (i : Nat) {b : Bool} (e : (exl K)[i]? = some b) : b = true := List.all_eq_true.mp h b (List.mem_of_getElem? e)
abbrev R : PySem.W.OpenRow := PySem.W.OpenLaw.row PySem.Challenge.rw_routevan_k04_timetables
abbrev hk : PySem.W.Hook := He.hookX 6 fa fn [] [] ex
def ob (s : PySem.W.SharedT) : He.AlX := He.obsX 6 fa fn [] [] ex (HandSHeadRun.getT s)
theorem ob_eq (s : PySem.W.SharedT) : ob s = hk.obs s.abs := He.obsX_eq (HandSHeadRun.getT_eq s)
def names : List Str := [("RouteError" : Str), ("BadRoad" : Str), ("OffRoad" : Str), ("BadTime" : Str), ("TooMany" : Str), ("BadOrder" : Str), ("Missed" : Str), ("NoDay" : Str), ("LINE" : Str), ("RING" : Str), ("LONGEST" : Str), ("is_road" : Str), ("has_place" : Str), ("apart" : Str), ("way" : Str), ("LATEST" : Str), ("MOST_STOPS" : Str), ("is_time" : Str), ("check_stop" : Str), ("check_day" : Str), ("Day" : Str), ("check_order" : Str), ("visit" : Str), ("timetable" : Str), ("ends" : Str), ("_law_cell_at" : Str), ("_law_wide" : Str), ("_law_whole" : Str), ("_law_road_by" : Str), ("_law_places" : Str), ("_law_place_by" : Str), ("_law_apart" : Str), ("_law_start_by" : Str), ("_law_stop_by" : Str), ("_law_stops_by" : Str), ("_law_order_by" : Str), ("_law_bad" : Str), ("_law_rows" : Str), ("_law_told" : Str), ("_law_ended" : Str), ("_law_alike" : Str), ("_law_right" : Str)]
theorem run (w : World) : HandSHeadRun.RunEq R (PySem.W.view R.prog [46]) hk ob 3000 names w := by
  intro os
  kernel_rfl
theorem facts {P : Program} {w : World} {K : PySem.W.Frag} {h : Heap} {mg : Str → Option Value} {f : Addr} (KX : K.In h) (G : h.Ns mainGlobals mg) (hfa : mg ("law" : Str) = some (.ref f)) (c : He.SaysD fa fn K) (hx : ex K = true) :
    ∃ fd : FuncData, (∀ (s : Shared) (v : Value), BindsTo s fd ⟨[v], []⟩ [("_law_script", v)]) ∧ ∀ base : Heap, K.In base → base.Ns mainGlobals mg → FnOk P w K mg base CX0 8 f fd ["_law_script"] (sp_law K) := by
  obtain ⟨fd0, F0⟩ := c.def_ 0 (d := d_is_road) rfl
  obtain ⟨fd1, F1⟩ := c.def_ 1 (d := d_has_place) rfl
  obtain ⟨fd2, F2⟩ := c.def_ 2 (d := d_apart) rfl
  obtain ⟨fd3, F3⟩ := c.def_ 3 (d := d_way) rfl
  obtain ⟨fd4, F4⟩ := c.def_ 4 (d := d_is_time) rfl
  obtain ⟨fd5, F5⟩ := c.def_ 5 (d := d_check_stop) rfl
  obtain ⟨fd6, F6⟩ := c.def_ 6 (d := d_check_day) rfl
  obtain ⟨fd7, F7⟩ := c.def_ 7 (d := d_Day___init) rfl
  obtain ⟨fd8, F8⟩ := c.def_ 8 (d := d_check_order) rfl
  obtain ⟨fd9, F9⟩ := c.def_ 9 (d := d_visit) rfl
  obtain ⟨fd10, F10⟩ := c.def_ 10 (d := d_timetable) rfl
  obtain ⟨fd11, F11⟩ := c.def_ 11 (d := d_ends) rfl
  obtain ⟨fd12, F12⟩ := c.def_ 12 (d := d_law_cell_at) rfl
  obtain ⟨fd13, F13⟩ := c.def_ 13 (d := d_law_wide) rfl
  obtain ⟨fd14, F14⟩ := c.def_ 14 (d := d_law_whole) rfl
  obtain ⟨fd15, F15⟩ := c.def_ 15 (d := d_law_road_by) rfl
  obtain ⟨fd16, F16⟩ := c.def_ 16 (d := d_law_places) rfl
  obtain ⟨fd17, F17⟩ := c.def_ 17 (d := d_law_place_by) rfl
  obtain ⟨fd18, F18⟩ := c.def_ 18 (d := d_law_apart) rfl
  obtain ⟨fd19, F19⟩ := c.def_ 19 (d := d_law_start_by) rfl
  obtain ⟨fd20, F20⟩ := c.def_ 20 (d := d_law_stop_by) rfl
  obtain ⟨fd21, F21⟩ := c.def_ 21 (d := d_law_stops_by) rfl
  obtain ⟨fd22, F22⟩ := c.def_ 22 (d := d_law_order_by) rfl
  obtain ⟨fd23, F23⟩ := c.def_ 23 (d := d_law_bad) rfl
  obtain ⟨fd24, F24⟩ := c.def_ 24 (d := d_law_rows) rfl
  obtain ⟨fd25, F25⟩ := c.def_ 25 (d := d_law_told) rfl
  obtain ⟨fd26, F26⟩ := c.def_ 26 (d := d_law_ended) rfl
  obtain ⟨fd27, F27⟩ := c.def_ 27 (d := d_law_alike) rfl
  obtain ⟨fd28, F28⟩ := c.def_ 28 (d := d_law_right) rfl
  obtain ⟨fd29, F29⟩ := c.def_ 29 (d := d_law) rfl
  let D : Str → FuncData := fun x => ([(("is_road" : Str), fd0), (("has_place" : Str), fd1), (("apart" : Str), fd2), (("way" : Str), fd3), (("is_time" : Str), fd4), (("check_stop" : Str), fd5), (("check_day" : Str), fd6), (("Day.__init__" : Str), fd7), (("check_order" : Str), fd8), (("visit" : Str), fd9), (("timetable" : Str), fd10), (("ends" : Str), fd11), (("_law_cell_at" : Str), fd12), (("_law_wide" : Str), fd13), (("_law_whole" : Str), fd14), (("_law_road_by" : Str), fd15), (("_law_places" : Str), fd16), (("_law_place_by" : Str), fd17), (("_law_apart" : Str), fd18), (("_law_start_by" : Str), fd19), (("_law_stop_by" : Str), fd20), (("_law_stops_by" : Str), fd21), (("_law_order_by" : Str), fd22), (("_law_bad" : Str), fd23), (("_law_rows" : Str), fd24), (("_law_told" : Str), fd25), (("_law_ended" : Str), fd26), (("_law_alike" : Str), fd27), (("_law_right" : Str), fd28), (("law" : Str), fd29)].lookup x).getD fd29
  have T : Txt K mg D := {
    F_is_road := F0,
    m_is_road := He.glo_ok KX G (c.fact 0 (f := (.glo "is_road")) rfl),
    b_is_road := F0.bindsN fun _ _ _ _ _ _ us hl => match us, hl with | [_], _ => rfl,
    F_has_place := F1,
    m_has_place := He.glo_ok KX G (c.fact 1 (f := (.glo "has_place")) rfl),
    b_has_place := F1.bindsN fun _ _ _ _ _ _ us hl => match us, hl with | [_, _], _ => rfl,
    F_apart := F2,
    m_apart := He.glo_ok KX G (c.fact 2 (f := (.glo "apart")) rfl),
    b_apart := F2.bindsN fun _ _ _ _ _ _ us hl => match us, hl with | [_, _, _], _ => rfl,
    F_way := F3,
    m_way := He.glo_ok KX G (c.fact 3 (f := (.glo "way")) rfl),
    b_way := F3.bindsN fun _ _ _ _ _ _ us hl => match us, hl with | [_, _, _], _ => rfl,
    F_is_time := F4,
    m_is_time := He.glo_ok KX G (c.fact 4 (f := (.glo "is_time")) rfl),
    b_is_time := F4.bindsN fun _ _ _ _ _ _ us hl => match us, hl with | [_], _ => rfl,
    F_check_stop := F5,
    m_check_stop := He.glo_ok KX G (c.fact 5 (f := (.glo "check_stop")) rfl),
    b_check_stop := F5.bindsN fun _ _ _ _ _ _ us hl => match us, hl with | [_, _], _ => rfl,
    F_check_day := F6,
    m_check_day := He.glo_ok KX G (c.fact 6 (f := (.glo "check_day")) rfl),
    b_check_day := F6.bindsN fun _ _ _ _ _ _ us hl => match us, hl with | [_, _, _, _], _ => rfl,
    F_Day___init := F7,
    b_Day___init := F7.bindsN fun _ _ _ _ _ _ us hl => match us, hl with | [_, _, _, _, _], _ => rfl,
    F_check_order := F8,
    m_check_order := He.glo_ok KX G (c.fact 7 (f := (.glo "check_order")) rfl),
    b_check_order := F8.bindsN fun _ _ _ _ _ _ us hl => match us, hl with | [_, _], _ => rfl,
    F_visit := F9,
    m_visit := He.glo_ok KX G (c.fact 8 (f := (.glo "visit")) rfl),
    b_visit := F9.bindsN fun _ _ _ _ _ _ us hl => match us, hl with | [_, _, _, _], _ => rfl,
    F_timetable := F10,
    m_timetable := He.glo_ok KX G (c.fact 9 (f := (.glo "timetable")) rfl),
    b_timetable := F10.bindsN fun _ _ _ _ _ _ us hl => match us, hl with | [_, _], _ => rfl,
    F_ends := F11,
    m_ends := He.glo_ok KX G (c.fact 10 (f := (.glo "ends")) rfl),
    b_ends := F11.bindsN fun _ _ _ _ _ _ us hl => match us, hl with | [_, _], _ => rfl,
    F_law_cell_at := F12,
    m_law_cell_at := He.glo_ok KX G (c.fact 11 (f := (.glo "_law_cell_at")) rfl),
    b_law_cell_at := F12.bindsN fun _ _ _ _ _ _ us hl => match us, hl with | [_, _], _ => rfl,
    F_law_wide := F13,
    m_law_wide := He.glo_ok KX G (c.fact 12 (f := (.glo "_law_wide")) rfl),
    b_law_wide := F13.bindsN fun _ _ _ _ _ _ us hl => match us, hl with | [_, _], _ => rfl,
    F_law_whole := F14,
    m_law_whole := He.glo_ok KX G (c.fact 13 (f := (.glo "_law_whole")) rfl),
    b_law_whole := F14.bindsN fun _ _ _ _ _ _ us hl => match us, hl with | [_], _ => rfl,
    F_law_road_by := F15,
    m_law_road_by := He.glo_ok KX G (c.fact 14 (f := (.glo "_law_road_by")) rfl),
    b_law_road_by := F15.bindsN fun _ _ _ _ _ _ us hl => match us, hl with | [_], _ => rfl,
    F_law_places := F16,
    m_law_places := He.glo_ok KX G (c.fact 15 (f := (.glo "_law_places")) rfl),
    b_law_places := F16.bindsN fun _ _ _ _ _ _ us hl => match us, hl with | [_], _ => rfl,
    F_law_place_by := F17,
    m_law_place_by := He.glo_ok KX G (c.fact 16 (f := (.glo "_law_place_by")) rfl),
    b_law_place_by := F17.bindsN fun _ _ _ _ _ _ us hl => match us, hl with | [_, _], _ => rfl,
    F_law_apart := F18,
    m_law_apart := He.glo_ok KX G (c.fact 17 (f := (.glo "_law_apart")) rfl),
    b_law_apart := F18.bindsN fun _ _ _ _ _ _ us hl => match us, hl with | [_, _, _], _ => rfl,
    F_law_start_by := F19,
    m_law_start_by := He.glo_ok KX G (c.fact 18 (f := (.glo "_law_start_by")) rfl),
    b_law_start_by := F19.bindsN fun _ _ _ _ _ _ us hl => match us, hl with | [_, _], _ => rfl,
    F_law_stop_by := F20,
    m_law_stop_by := He.glo_ok KX G (c.fact 19 (f := (.glo "_law_stop_by")) rfl),
    b_law_stop_by := F20.bindsN fun _ _ _ _ _ _ us hl => match us, hl with | [_, _, _, _], _ => rfl,
    F_law_stops_by := F21,
    m_law_stops_by := He.glo_ok KX G (c.fact 20 (f := (.glo "_law_stops_by")) rfl),
    b_law_stops_by := F21.bindsN fun _ _ _ _ _ _ us hl => match us, hl with | [_, _, _, _], _ => rfl,
    F_law_order_by := F22,
    m_law_order_by := He.glo_ok KX G (c.fact 21 (f := (.glo "_law_order_by")) rfl),
    b_law_order_by := F22.bindsN fun _ _ _ _ _ _ us hl => match us, hl with | [_, _], _ => rfl,
    F_law_bad := F23,
    m_law_bad := He.glo_ok KX G (c.fact 22 (f := (.glo "_law_bad")) rfl),
    b_law_bad := F23.bindsN fun _ _ _ _ _ _ us hl => match us, hl with | [_, _], _ => rfl,
    F_law_rows := F24,
    m_law_rows := He.glo_ok KX G (c.fact 23 (f := (.glo "_law_rows")) rfl),
    b_law_rows := F24.bindsN fun _ _ _ _ _ _ us hl => match us, hl with | [_, _, _, _, _], _ => rfl,
    F_law_told := F25,
    m_law_told := He.glo_ok KX G (c.fact 24 (f := (.glo "_law_told")) rfl),
    b_law_told := F25.bindsN fun _ _ _ _ _ _ us hl => match us, hl with | [_, _], _ => rfl,
    F_law_ended := F26,
    m_law_ended := He.glo_ok KX G (c.fact 25 (f := (.glo "_law_ended")) rfl),
    b_law_ended := F26.bindsN fun _ _ _ _ _ _ us hl => match us, hl with | [_, _], _ => rfl,
    F_law_alike := F27,
    m_law_alike := He.glo_ok KX G (c.fact 26 (f := (.glo "_law_alike")) rfl),
    b_law_alike := F27.bindsN fun _ _ _ _ _ _ us hl => match us, hl with | [_, _], _ => rfl,
    F_law_right := F28,
    m_law_right := He.glo_ok KX G (c.fact 27 (f := (.glo "_law_right")) rfl),
    b_law_right := F28.bindsN fun _ _ _ _ _ _ us hl => match us, hl with | [_, _, _, _], _ => rfl,
    F_law := F29,
    m_law := He.glo_ok KX G (c.fact 28 (f := (.glo "law")) rfl),
    b_law := F29.bindsN fun _ _ _ _ _ _ us hl => match us, hl with | [_], _ => rfl,
    m_RouteError := He.glo_ok KX G (c.fact 29 (f := (.glo "RouteError")) rfl),
    x_RouteError := (He.exc_ok (c.fact 30 (f := (.exc "RouteError")) rfl)).1,
    kp_RouteError := (He.exc_ok (c.fact 30 (f := (.exc "RouteError")) rfl)).2.1,
    sb_RouteError := (He.exc_ok (c.fact 30 (f := (.exc "RouteError")) rfl)).2.2.1,
    ty_RouteError := (He.exc_ok (c.fact 30 (f := (.exc "RouteError")) rfl)).2.2.2,
    m_BadRoad := He.glo_ok KX G (c.fact 31 (f := (.glo "BadRoad")) rfl),
    x_BadRoad := (He.exc_ok (c.fact 32 (f := (.exc "BadRoad")) rfl)).1,
    kp_BadRoad := (He.exc_ok (c.fact 32 (f := (.exc "BadRoad")) rfl)).2.1,
    sb_BadRoad := (He.exc_ok (c.fact 32 (f := (.exc "BadRoad")) rfl)).2.2.1,
    ty_BadRoad := (He.exc_ok (c.fact 32 (f := (.exc "BadRoad")) rfl)).2.2.2,
    m_OffRoad := He.glo_ok KX G (c.fact 33 (f := (.glo "OffRoad")) rfl),
    x_OffRoad := (He.exc_ok (c.fact 34 (f := (.exc "OffRoad")) rfl)).1,
    kp_OffRoad := (He.exc_ok (c.fact 34 (f := (.exc "OffRoad")) rfl)).2.1,
    sb_OffRoad := (He.exc_ok (c.fact 34 (f := (.exc "OffRoad")) rfl)).2.2.1,
    ty_OffRoad := (He.exc_ok (c.fact 34 (f := (.exc "OffRoad")) rfl)).2.2.2,
    m_BadTime := He.glo_ok KX G (c.fact 35 (f := (.glo "BadTime")) rfl),
    x_BadTime := (He.exc_ok (c.fact 36 (f := (.exc "BadTime")) rfl)).1,
    kp_BadTime := (He.exc_ok (c.fact 36 (f := (.exc "BadTime")) rfl)).2.1,
    sb_BadTime := (He.exc_ok (c.fact 36 (f := (.exc "BadTime")) rfl)).2.2.1,
    ty_BadTime := (He.exc_ok (c.fact 36 (f := (.exc "BadTime")) rfl)).2.2.2,
    m_TooMany := He.glo_ok KX G (c.fact 37 (f := (.glo "TooMany")) rfl),
    x_TooMany := (He.exc_ok (c.fact 38 (f := (.exc "TooMany")) rfl)).1,
    kp_TooMany := (He.exc_ok (c.fact 38 (f := (.exc "TooMany")) rfl)).2.1,
    sb_TooMany := (He.exc_ok (c.fact 38 (f := (.exc "TooMany")) rfl)).2.2.1,
    ty_TooMany := (He.exc_ok (c.fact 38 (f := (.exc "TooMany")) rfl)).2.2.2,
    m_BadOrder := He.glo_ok KX G (c.fact 39 (f := (.glo "BadOrder")) rfl),
    x_BadOrder := (He.exc_ok (c.fact 40 (f := (.exc "BadOrder")) rfl)).1,
    kp_BadOrder := (He.exc_ok (c.fact 40 (f := (.exc "BadOrder")) rfl)).2.1,
    sb_BadOrder := (He.exc_ok (c.fact 40 (f := (.exc "BadOrder")) rfl)).2.2.1,
    ty_BadOrder := (He.exc_ok (c.fact 40 (f := (.exc "BadOrder")) rfl)).2.2.2,
    m_Missed := He.glo_ok KX G (c.fact 41 (f := (.glo "Missed")) rfl),
    x_Missed := (He.exc_ok (c.fact 42 (f := (.exc "Missed")) rfl)).1,
    kp_Missed := (He.exc_ok (c.fact 42 (f := (.exc "Missed")) rfl)).2.1,
    sb_Missed := (He.exc_ok (c.fact 42 (f := (.exc "Missed")) rfl)).2.2.1,
    ty_Missed := (He.exc_ok (c.fact 42 (f := (.exc "Missed")) rfl)).2.2.2,
    m_NoDay := He.glo_ok KX G (c.fact 43 (f := (.glo "NoDay")) rfl),
    x_NoDay := (He.exc_ok (c.fact 44 (f := (.exc "NoDay")) rfl)).1,
    kp_NoDay := (He.exc_ok (c.fact 44 (f := (.exc "NoDay")) rfl)).2.1,
    sb_NoDay := (He.exc_ok (c.fact 44 (f := (.exc "NoDay")) rfl)).2.2.1,
    ty_NoDay := (He.exc_ok (c.fact 44 (f := (.exc "NoDay")) rfl)).2.2.2,
    m_Day := He.glo_ok KX G (c.fact 45 (f := (.glo "Day")) rfl),
    cl_Day := He.cls_ok (c.fact 46 (f := (.cls "Day")) rfl),
    k_Day := He.mkr_ok (c.fact 47 (f := (.mkr "Day")) rfl),
    na_Day_home := He.noat_ok (c.fact 48 (f := (.noat "Day" "home")) rfl),
    na_Day_road := He.noat_ok (c.fact 49 (f := (.noat "Day" "road")) rfl),
    na_Day_start := He.noat_ok (c.fact 50 (f := (.noat "Day" "start")) rfl),
    na_Day_stops := He.noat_ok (c.fact 51 (f := (.noat "Day" "stops")) rfl),
    e_OffRoad_BadOrder := He.exm_ok (c.fact 52 (f := (.exm "OffRoad" "BadOrder" false)) rfl),
    e_OffRoad_Missed := He.exm_ok (c.fact 53 (f := (.exm "OffRoad" "Missed" false)) rfl),
    e_OffRoad_RouteError := He.exm_ok (c.fact 54 (f := (.exm "OffRoad" "RouteError" true)) rfl),
    e_BadTime_BadOrder := He.exm_ok (c.fact 55 (f := (.exm "BadTime" "BadOrder" false)) rfl),
    e_BadTime_Missed := He.exm_ok (c.fact 56 (f := (.exm "BadTime" "Missed" false)) rfl),
    e_BadTime_RouteError := He.exm_ok (c.fact 57 (f := (.exm "BadTime" "RouteError" true)) rfl),
    e_BadRoad_BadOrder := He.exm_ok (c.fact 58 (f := (.exm "BadRoad" "BadOrder" false)) rfl),
    e_BadRoad_Missed := He.exm_ok (c.fact 59 (f := (.exm "BadRoad" "Missed" false)) rfl),
    e_BadRoad_RouteError := He.exm_ok (c.fact 60 (f := (.exm "BadRoad" "RouteError" true)) rfl),
    e_TooMany_BadOrder := He.exm_ok (c.fact 61 (f := (.exm "TooMany" "BadOrder" false)) rfl),
    e_TooMany_Missed := He.exm_ok (c.fact 62 (f := (.exm "TooMany" "Missed" false)) rfl),
    e_TooMany_RouteError := He.exm_ok (c.fact 63 (f := (.exm "TooMany" "RouteError" true)) rfl),
    e_BadOrder_BadOrder := He.exm_ok (c.fact 64 (f := (.exm "BadOrder" "BadOrder" true)) rfl),
    e_BadOrder_Missed := He.exm_ok (c.fact 65 (f := (.exm "BadOrder" "Missed" false)) rfl),
    e_BadOrder_RouteError := He.exm_ok (c.fact 66 (f := (.exm "BadOrder" "RouteError" true)) rfl),
    e_Missed_BadOrder := He.exm_ok (c.fact 67 (f := (.exm "Missed" "BadOrder" false)) rfl),
    e_Missed_Missed := He.exm_ok (c.fact 68 (f := (.exm "Missed" "Missed" true)) rfl),
    e_Missed_RouteError := He.exm_ok (c.fact 69 (f := (.exm "Missed" "RouteError" true)) rfl),
    c_LINE := (fun ⟨t, e⟩ => ⟨_, e, t, rfl⟩) (He.str_ok KX G (c.fact 70 (f := (.str "LINE" "line")) rfl)),
    c_RING := (fun ⟨t, e⟩ => ⟨_, e, t, rfl⟩) (He.str_ok KX G (c.fact 71 (f := (.str "RING" "ring")) rfl)),
    c_LONGEST := (fun ⟨t, e⟩ => ⟨_, e, t, rfl⟩) (He.int_ok KX G (c.fact 72 (f := (.int "LONGEST" 1000000000)) rfl)),
    c_LATEST := (fun ⟨t, e⟩ => ⟨_, e, t, rfl⟩) (He.int_ok KX G (c.fact 73 (f := (.int "LATEST" 1000000000000)) rfl)),
    c_MOST_STOPS := (fun ⟨t, e⟩ => ⟨_, e, t, rfl⟩) (He.int_ok KX G (c.fact 74 (f := (.int "MOST_STOPS" 7)) rfl)),
    m_abs := He.free_ok KX G (c.fact 75 (f := (.free "abs")) rfl),
    m_max := He.free_ok KX G (c.fact 76 (f := (.free "max")) rfl),
    m_min := He.free_ok KX G (c.fact 77 (f := (.free "min")) rfl),
    m_list := He.free_ok KX G (c.fact 78 (f := (.free "list")) rfl),
    m_range := He.free_ok KX G (c.fact 79 (f := (.free "range")) rfl),
    m_len := He.free_ok KX G (c.fact 80 (f := (.free "len")) rfl),
    m_isinstance := He.free_ok KX G (c.fact 81 (f := (.free "isinstance")) rfl),
    m_int := He.free_ok KX G (c.fact 82 (f := (.free "int")) rfl),
    m_set := He.free_ok KX G (c.fact 83 (f := (.free "set")) rfl),
    m_bool := He.free_ok KX G (c.fact 84 (f := (.free "bool")) rfl),
    m_tuple := He.free_ok KX G (c.fact 85 (f := (.free "tuple")) rfl),
    m_ValueError := He.free_ok KX G (c.fact 86 (f := (.free "ValueError")) rfl),
    ec_OffRoad := excCB_ok (exAt hx 0 rfl),
    ec_BadTime := excCB_ok (exAt hx 1 rfl),
    ec_BadRoad := excCB_ok (exAt hx 2 rfl),
    ec_TooMany := excCB_ok (exAt hx 3 rfl),
    ec_BadOrder := excCB_ok (exAt hx 4 rfl),
    ec_Missed := excCB_ok (exAt hx 5 rfl),
    is_OffRoad_BadRoad := of_decide_eq_true (exAt hx 6 rfl),
    is_OffRoad_OffRoad := of_decide_eq_true (exAt hx 7 rfl),
    is_OffRoad_BadTime := of_decide_eq_true (exAt hx 8 rfl),
    is_OffRoad_TooMany := of_decide_eq_true (exAt hx 9 rfl),
    is_OffRoad_NoDay := of_decide_eq_true (exAt hx 10 rfl),
    is_OffRoad_BadOrder := of_decide_eq_true (exAt hx 11 rfl),
    is_OffRoad_Missed := of_decide_eq_true (exAt hx 12 rfl),
    is_OffRoad_ValueError := of_decide_eq_true (exAt hx 13 rfl),
    is_BadTime_BadRoad := of_decide_eq_true (exAt hx 14 rfl),
    is_BadTime_OffRoad := of_decide_eq_true (exAt hx 15 rfl),
    is_BadTime_BadTime := of_decide_eq_true (exAt hx 16 rfl),
    is_BadTime_TooMany := of_decide_eq_true (exAt hx 17 rfl),
    is_BadTime_NoDay := of_decide_eq_true (exAt hx 18 rfl),
    is_BadTime_BadOrder := of_decide_eq_true (exAt hx 19 rfl),
    is_BadTime_Missed := of_decide_eq_true (exAt hx 20 rfl),
    is_BadTime_ValueError := of_decide_eq_true (exAt hx 21 rfl),
    is_BadRoad_BadRoad := of_decide_eq_true (exAt hx 22 rfl),
    is_BadRoad_OffRoad := of_decide_eq_true (exAt hx 23 rfl),
    is_BadRoad_BadTime := of_decide_eq_true (exAt hx 24 rfl),
    is_BadRoad_TooMany := of_decide_eq_true (exAt hx 25 rfl),
    is_BadRoad_NoDay := of_decide_eq_true (exAt hx 26 rfl),
    is_BadRoad_BadOrder := of_decide_eq_true (exAt hx 27 rfl),
    is_BadRoad_Missed := of_decide_eq_true (exAt hx 28 rfl),
    is_BadRoad_ValueError := of_decide_eq_true (exAt hx 29 rfl),
    is_TooMany_BadRoad := of_decide_eq_true (exAt hx 30 rfl),
    is_TooMany_OffRoad := of_decide_eq_true (exAt hx 31 rfl),
    is_TooMany_BadTime := of_decide_eq_true (exAt hx 32 rfl),
    is_TooMany_TooMany := of_decide_eq_true (exAt hx 33 rfl),
    is_TooMany_NoDay := of_decide_eq_true (exAt hx 34 rfl),
    is_TooMany_BadOrder := of_decide_eq_true (exAt hx 35 rfl),
    is_TooMany_Missed := of_decide_eq_true (exAt hx 36 rfl),
    is_TooMany_ValueError := of_decide_eq_true (exAt hx 37 rfl),
    is_BadOrder_BadRoad := of_decide_eq_true (exAt hx 38 rfl),
    is_BadOrder_OffRoad := of_decide_eq_true (exAt hx 39 rfl),
    is_BadOrder_BadTime := of_decide_eq_true (exAt hx 40 rfl),
    is_BadOrder_TooMany := of_decide_eq_true (exAt hx 41 rfl),
    is_BadOrder_NoDay := of_decide_eq_true (exAt hx 42 rfl),
    is_BadOrder_BadOrder := of_decide_eq_true (exAt hx 43 rfl),
    is_BadOrder_Missed := of_decide_eq_true (exAt hx 44 rfl),
    is_BadOrder_ValueError := of_decide_eq_true (exAt hx 45 rfl),
    is_Missed_BadRoad := of_decide_eq_true (exAt hx 46 rfl),
    is_Missed_OffRoad := of_decide_eq_true (exAt hx 47 rfl),
    is_Missed_BadTime := of_decide_eq_true (exAt hx 48 rfl),
    is_Missed_TooMany := of_decide_eq_true (exAt hx 49 rfl),
    is_Missed_NoDay := of_decide_eq_true (exAt hx 50 rfl),
    is_Missed_BadOrder := of_decide_eq_true (exAt hx 51 rfl),
    is_Missed_Missed := of_decide_eq_true (exAt hx 52 rfl),
    is_Missed_ValueError := of_decide_eq_true (exAt hx 53 rfl)
  }
  have e := hfa.symm.trans T.m_law
  cases e
  have b := FunD.bindsA (ps := ["_law_script"]) F29 fun _ _ _ _ _ _ us hl => match us, hl with | [_], _ => rfl
  exact ⟨fd29, fun s v => b s [v] rfl, fun base _ _ => ok_law T⟩
end RV
open PySem PySem.W PySem.Calls PyProof.Rows
set_option maxRecDepth 100000 in
set_option maxHeartbeats 0 in
theorem PySem.Challenge.cw_routevan_k04_timetables_holds : PySem.Challenge.rw_routevan_k04_timetables.Holds := by
  w_on; o_law
  refine HandSHeadRun.head_any (r := OpenLaw.row PySem.Challenge.rw_routevan_k04_timetables) (q := view (OpenLaw.row PySem.Challenge.rw_routevan_k04_timetables).prog [46]) (H := RV.hk) (ob := RV.ob) (M := 3000) (loose := RV.names) (d := HandSHeadRun.topDef (OpenLaw.row PySem.Challenge.rw_routevan_k04_timetables).prog 46) (kwd := []) RV.ob_eq
    (by kernel_rfl) (fun s => by kernel_rfl) RV.run (by kernel_rfl) (by kernel_rfl) (by kernel_rfl) (by rfl) (by first | assumption | decide +kernel) (by decide +kernel) ⟨rfl, rfl, rfl, rfl, rfl, by decide +kernel⟩ ?hw ?hc
  case hw => w_witness2
  case hc =>
    refine L2.walk_ofE (l := PySem.Challenge.rw_routevan_k04_timetables) (n := 63) (k := 8) (x := "_law_script") (CX := L2.CX0) rfl (by decide) (by kernel_rfl) ⟨rfl, by decide, by decide⟩ ?F (fun _ _ _ _ z => z)
    intro w mg fa h Y G hmg0
    obtain ⟨K, KX, c⟩ := Y
    have hmg : mg ("law" : PySem.Str) = some (.ref fa) := by
      have e : (HandSHeadRun.topDef (OpenLaw.row PySem.Challenge.rw_routevan_k04_timetables).prog 46).name = ("law" : PySem.Str) := by kernel_rfl
      rw [← e]
      exact hmg0
    obtain ⟨fd, hb, hF⟩ := RV.facts (P := (PySem.Challenge.rw_routevan_k04_timetables).prog) (w := w) KX G hmg c.t.d c.more
    exact ⟨K, fd, RV.sp_law K, KX, hb, fun H a ns hl _ hS => ⟨a, ns, rfl, hS, hl, fun _ => rfl⟩, hF⟩

