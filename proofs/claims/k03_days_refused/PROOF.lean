import PyProof.Rows.All
import Wide.All
import OpenK.AllK
import Wide.FinOn
import KE.KStateDown
import Lean
import HandS.ForMost
import HandS.ForExc
import HandS.More
import HandS.Defaults
import HandS.IsInst
import HandS.ExcIs
import HandS.TryMany
import HandS.Evl
import HandS.Steps
import HandS.Style
import HandS.SetFor
import HandS.Strs
import HandS.Zip
import HandS.Conv
import HandS.Deep
import HandS.Head0
import HandS.Head1
import HandS.Head2
import HandS.HeadEnd
import HandS.HeadHook1
import HandS.HeadHook2
import HandS.HeadHook3
import HandS.HeadHook4
import HandS.HeadWalk
import HandS.TupLen
import HandS.SortKw
import HandS.Walk
import KE.KDictKeyed
import KE.KDictWalk
import KE.KEqDict
import PySem.Challenge.RW_routevan_k03_days_refused
set_option Elab.async false
set_option linter.all false
set_option maxRecDepth 100000
set_option maxHeartbeats 2000000
local macro_rules | `(tactic| walk_at "side") => `(tactic| first | decide | omega | assumption | exact ⟨by decide, by decide⟩ | exact Or.inr ⟨by decide, by decide⟩ | exact Or.inl ⟨by decide, by decide⟩ | exact ⟨by omega, by omega⟩ | exact Evl.sz_of (Nat.le_of_ble_eq_true rfl))
local macro_rules | `(tactic| walk_at "seq") => `(tactic| first | assumption | exact L2.SqT.of (by assumption) | exact L2.SqL.of (by assumption))
local macro_rules | `(tactic| walk_at "go") => `(tactic| repeat (first
  | refine ⟨_, rfl, ?_⟩
  | refine ⟨_, _, rfl, rfl, ?_⟩
  | refine ⟨_, _, rfl, ?_⟩
  | refine ⟨rfl, ?_⟩
  | refine And.intro (by walk_at "side") ?_
  | refine ⟨_, _, _, _, rfl, rfl, (by walk_at "seq"), rfl, ?_⟩
  | refine ⟨_, _, rfl, Or.inl (by walk_at "seq"), ?_⟩
  | refine ⟨_, _, rfl, Or.inr (by walk_at "seq"), ?_⟩
  | refine ⟨_, _, rfl, (by walk_at "seq"), rfl, ?_⟩
  | refine ⟨_, _, _, _, rfl, rfl, (by walk_at "seq"), (by assumption), ?_⟩
  | refine ⟨_, _, rfl, (by walk_at "seq"), ?_⟩
  | refine ⟨_, _, _, rfl, (fun u e => e), (by assumption), ?_⟩))
namespace RV
open PySem PySem.Spec PyProof.Rows L2
open Evl (Ex)

/-! ### the text by places -/
def top (i : Nat) : Stmt := PySem.Challenge.pw_routevan_k03_days_refused.main.body.getD i (.Pass ⟨0, 0, 0, 0⟩)
abbrev s_is_road : Stmt := top 13
abbrev N_is_road : List Str := ["road", "word", "length"]
theorem sc_is_road : FnScope N_is_road ["road"] (defScope s_is_road) := ⟨rfl, rfl, rfl, by decide +kernel, rfl, by decide +kernel, by decide +kernel⟩
abbrev s_has_place : Stmt := top 14
abbrev N_has_place : List Str := ["road", "place", "word", "length"]
theorem sc_has_place : FnScope N_has_place ["road", "place"] (defScope s_has_place) := ⟨rfl, rfl, rfl, by decide +kernel, rfl, by decide +kernel, by decide +kernel⟩
abbrev s_is_time : Stmt := top 18
abbrev N_is_time : List Str := ["number"]
theorem sc_is_time : FnScope N_is_time ["number"] (defScope s_is_time) := ⟨rfl, rfl, rfl, by decide +kernel, rfl, by decide +kernel, by decide +kernel⟩
abbrev s_check_stop : Stmt := top 19
abbrev N_check_stop : List Str := ["road", "stop", "place", "opens", "closes", "stay"]
theorem sc_check_stop : FnScope N_check_stop ["road", "stop"] (defScope s_check_stop) := ⟨rfl, rfl, rfl, by decide +kernel, rfl, by decide +kernel, by decide +kernel⟩
abbrev s_check_day : Stmt := top 20
abbrev N_check_day : List Str := ["road", "home", "start", "stops", "stop"]
theorem sc_check_day : FnScope N_check_day ["road", "home", "start", "stops"] (defScope s_check_day) := ⟨rfl, rfl, rfl, by decide +kernel, rfl, by decide +kernel, by decide +kernel⟩
abbrev s_Day___init : Stmt := inClass (top 21) 0
abbrev N_Day___init : List Str := ["self", "road", "home", "start", "stops"]
theorem sc_Day___init : FnScope N_Day___init ["self", "road", "home", "start", "stops"] (defScope s_Day___init) := ⟨rfl, rfl, rfl, by decide +kernel, rfl, by decide +kernel, by decide +kernel⟩
abbrev s_law_cell_at : Stmt := top 23
abbrev N_law_cell_at : List Str := ["_law_script", "_law_k"]
theorem sc_law_cell_at : FnScope N_law_cell_at ["_law_script", "_law_k"] (defScope s_law_cell_at) := ⟨rfl, rfl, rfl, by decide +kernel, rfl, by decide +kernel, by decide +kernel⟩
abbrev s_law_wide : Stmt := top 24
abbrev N_law_wide : List Str := ["_law_cell", "_law_bound"]
theorem sc_law_wide : FnScope N_law_wide ["_law_cell", "_law_bound"] (defScope s_law_wide) := ⟨rfl, rfl, rfl, by decide +kernel, rfl, by decide +kernel, by decide +kernel⟩
abbrev s_law_whole : Stmt := top 25
abbrev N_law_whole : List Str := ["_law_found"]
theorem sc_law_whole : FnScope N_law_whole ["_law_found"] (defScope s_law_whole) := ⟨rfl, rfl, rfl, by decide +kernel, rfl, by decide +kernel, by decide +kernel⟩
abbrev s_law_road_by : Stmt := top 26
abbrev N_law_road_by : List Str := ["_law_cell", "_law_length"]
theorem sc_law_road_by : FnScope N_law_road_by ["_law_cell"] (defScope s_law_road_by) := ⟨rfl, rfl, rfl, by decide +kernel, rfl, by decide +kernel, by decide +kernel⟩
abbrev s_law_places : Stmt := top 27
abbrev N_law_places : List Str := ["_law_road"]
theorem sc_law_places : FnScope N_law_places ["_law_road"] (defScope s_law_places) := ⟨rfl, rfl, rfl, by decide +kernel, rfl, by decide +kernel, by decide +kernel⟩
abbrev s_law_place_by : Stmt := top 28
abbrev N_law_place_by : List Str := ["_law_road", "_law_cell", "_law_many"]
theorem sc_law_place_by : FnScope N_law_place_by ["_law_road", "_law_cell"] (defScope s_law_place_by) := ⟨rfl, rfl, rfl, by decide +kernel, rfl, by decide +kernel, by decide +kernel⟩
abbrev s_law_start_by : Stmt := top 29
abbrev N_law_start_by : List Str := ["_law_road", "_law_cell"]
theorem sc_law_start_by : FnScope N_law_start_by ["_law_road", "_law_cell"] (defScope s_law_start_by) := ⟨rfl, rfl, rfl, by decide +kernel, rfl, by decide +kernel, by decide +kernel⟩
abbrev s_law_stop_by : Stmt := top 30
abbrev N_law_stop_by : List Str := ["_law_road", "_law_start", "_law_script", "_law_k", "_law_place", "_law_cell", "_law_opens", "_law_closes", "_law_stay"]
theorem sc_law_stop_by : FnScope N_law_stop_by ["_law_road", "_law_start", "_law_script", "_law_k"] (defScope s_law_stop_by) := ⟨rfl, rfl, rfl, by decide +kernel, rfl, by decide +kernel, by decide +kernel⟩
abbrev s_law_stops_by : Stmt := top 31
abbrev N_law_stops_by : List Str := ["_law_road", "_law_start", "_law_script", "_law_many", "_law_k"]
theorem sc_law_stops_by : FnScope N_law_stops_by ["_law_road", "_law_start", "_law_script", "_law_many"] (defScope s_law_stops_by) := ⟨rfl, rfl, rfl, by decide +kernel, rfl, by decide +kernel, by decide +kernel⟩
abbrev s_law_raw_by : Stmt := top 32
abbrev N_law_raw_by : List Str := ["_law_script", "_law_road", "_law_start", "_law_raw", "_law_stop"]
theorem sc_law_raw_by : FnScope N_law_raw_by ["_law_script"] (defScope s_law_raw_by) := ⟨rfl, rfl, rfl, by decide +kernel, rfl, by decide +kernel, by decide +kernel⟩
abbrev s_law_spoilt : Stmt := top 33
abbrev N_law_spoilt : List Str := ["_law_raw", "_law_cell", "_law_by", "_law_at", "_law_far", "_law_worse"]
theorem sc_law_spoilt : FnScope N_law_spoilt ["_law_raw", "_law_cell", "_law_by"] (defScope s_law_spoilt) := ⟨rfl, rfl, rfl, by decide +kernel, rfl, by decide +kernel, by decide +kernel⟩
abbrev s_law_off : Stmt := top 34
abbrev N_law_off : List Str := ["_law_raw", "_law_place"]
theorem sc_law_off : FnScope N_law_off ["_law_raw", "_law_place"] (defScope s_law_off) := ⟨rfl, rfl, rfl, by decide +kernel, rfl, by decide +kernel, by decide +kernel⟩
abbrev s_law_late : Stmt := top 35
abbrev N_law_late : List Str := ["_law_time"]
theorem sc_law_late : FnScope N_law_late ["_law_time"] (defScope s_law_late) := ⟨rfl, rfl, rfl, by decide +kernel, rfl, by decide +kernel, by decide +kernel⟩
abbrev s_law_due : Stmt := top 36
abbrev N_law_due : List Str := ["_law_raw", "_law_k"]
theorem sc_law_due : FnScope N_law_due ["_law_raw"] (defScope s_law_due) := ⟨rfl, rfl, rfl, by decide +kernel, rfl, by decide +kernel, by decide +kernel⟩
abbrev s_law_made : Stmt := top 37
abbrev N_law_made : List Str := ["_law_raw", "_law_stops"]
theorem sc_law_made : FnScope N_law_made ["_law_raw", "_law_stops"] (defScope s_law_made) := ⟨rfl, rfl, rfl, by decide +kernel, rfl, by decide +kernel, by decide +kernel⟩
abbrev s_law_based : Stmt := top 38
abbrev N_law_based : List Str := ["_law_raw", "_law_stops", "error", "_law_kinds"]
theorem sc_law_based : FnScope N_law_based ["_law_raw", "_law_stops"] (defScope s_law_based) := ⟨rfl, rfl, rfl, by decide +kernel, rfl, by decide +kernel, by decide +kernel⟩
abbrev s_law : Stmt := top 39
abbrev N_law : List Str := ["_law_script", "_law_raw", "_law_k", "_law_stops", "_law_handed", "_law_found", "_law_due_here", "_law_other"]
theorem sc_law : FnScope N_law ["_law_script"] (defScope s_law) := ⟨rfl, rfl, rfl, by decide +kernel, rfl, by decide +kernel, by decide +kernel⟩
/-! ### words of our own -/
section
variable {X : Cx}
theorem pe_globE {x : Str} {v : V} {pos : Pos} (hg : Gl X x) (h : ∃ u, X.mg x = some u ∧ RelV v u) (hd : (x == ("__debug__" : Str)) = false := by decide) : PE X (.Name x pos) (tC v) := by
  obtain ⟨u, hm, r⟩ := h
  exact pe_glob hg hm r hd
end
theorem pe_eq {X : Cx} {e : Expr} {t t' : TE} (h : PE X e t) (q : t = t') : PE X e t' := q ▸ h
theorem pts_eq {X : Cx} {e : List Expr} {t t' : TT} (h : PTs X e t) (q : t = t') : PTs X e t' := q ▸ h
theorem pss_eq {X : Cx} {st : List Stmt} {t t' : TS} (h : PSs X st t) (e : t = t') : PSs X st t' := e ▸ h
theorem sizeOk {n : Nat} (h : n ≤ 100000) : n ≤ sizeLine := Evl.sz_of h
theorem szl {α : Type} {xs : List α} (h : Nat.ble xs.length 100000 = true := by rfl) : xs.length ≤ sizeLine := sizeOk (Nat.le_of_ble_eq_true h)
/-- a test's two ways -/
theorem iteB {b : Bool} {A B : Prop} (h1 : b = true → A) (h2 : b = false → B) : if b = true then A else B := by
  cases b with
  | true => exact h1 rfl
  | false => exact h2 rfl
theorem iteFb {b : Bool} {A B : Prop} (e : b = false) (h : B) : if b = true then A else B := by
  rw [e]
  exact iteF h
theorem iteTb {b : Bool} {A B : Prop} (e : b = true) (h : A) : if b = true then A else B := by
  rw [e]
  exact iteT h
theorem neSelf {v w : V} (e : v = w) : (!decide (v = w)) = false := by rw [decide_eq_true e]; rfl
theorem dec_eq {p r : Prop} {ip : Decidable p} {ir : Decidable r} (h : p ↔ r) : decide p = decide r := by
  by_cases c : p
  · rw [decide_eq_true c, decide_eq_true (h.mp c)]
  · rw [decide_eq_false c, decide_eq_false (fun z => c (h.mpr z))]
theorem dself {v : V} : decide (v = v) = true := decide_eq_true rfl
theorem odt {p : Prop} {i : Decidable p} (h : @decide p i = true) : p := of_decide_eq_true h
theorem odf {p : Prop} {i : Decidable p} (h : @decide p i = false) : ¬ p := of_decide_eq_false h
theorem decT {p : Prop} {i : Decidable p} (h : p) : @decide p i = true := decide_eq_true h
theorem decF {p : Prop} {i : Decidable p} (h : ¬ p) : @decide p i = false := decide_eq_false h
theorem nndec {p : Prop} {i : Decidable p} (h : (!@decide p i) = true) : ¬ p := fun z => by rw [decT z] at h; cases h
theorem ndec {p : Prop} {i : Decidable p} (h : (!@decide p i) = false) : p := Decidable.byContradiction fun z => by rw [decF z] at h; cases h
/-- a road as a value -/
def wordOf (ring : Bool) : Str := if ring then "ring" else "line"
def roadV (ring : Bool) (len : Int) : List V := [.str (wordOf ring), .int len]
theorem word_line (ring : Bool) : (V.str (wordOf ring) = V.str "line") ↔ ring = false := by cases ring <;> decide +kernel
theorem word_ring (ring : Bool) : (V.str (wordOf ring) = V.str "ring") ↔ ring = true := by cases ring <;> decide +kernel
/-- how many places a road has -/
def placesOf (ring : Bool) (len : Int) : Int := if ring then len else len + 1
/-- a new object leaves all -/
theorem ex_at {H H' : Hp} {a : Addr} {o : HO} (e : Ex H H') (h : H a = some o) : H' a = some o := e a o h
theorem atI_lt {α : Type} {xs : List α} {i : Int} (h0 : 0 ≤ i) (h1 : i < xs.length) : ∃ v, atI xs i = some v ∧ xs[i.toNat]? = some v := by
  have hl : i.toNat < xs.length := by omega
  refine ⟨xs[i.toNat], ?_, List.getElem?_eq_getElem hl⟩
  have q := atI_nat (xs := xs) (j := i.toNat) (v := xs[i.toNat]) (List.getElem?_eq_getElem hl)
  have e : ((i.toNat : Nat) : Int) = i := by omega
  rw [e] at q
  exact q
/-- what a callee raises, wished for at slots of the known number -/
theorem passes_len {X : Cx} {W : WX} {F : XK} {n : Nat} (tk : Takes X W) (hn : X.N.length = n) (hw : ∀ (c : Value) (o : Option Addr) (τ : L2.St) (G : Hp), τ.length = n → F c o G → W c o τ G) : Passes (L2.CX X.prog X.w) X F := by
  intro pins τ G s e s' I c
  refine tk e s' (XE.of_call I (fun c o G' h => ?_) c)
  exact hw c o τ G' (I.len.trans hn) h
/-! #### isinstance of a caught error, whatever its class -/
def rIsX (K : PySem.W.Frag) (a : Addr) (cls : Value) (d : Option Addr) : List V → Hp → VK → Prop := fun xs H Q => ∃ D, cls = .ref D ∧ d = none ∧ ExcC K D ∧ rIsE K D a xs H Q
theorem call_isX {X : Cx} {a : Addr} {cls : Value} {d : Option Addr} {oe : Obj} {pn : List (Addr × Obj)} (hz : Zc cls d oe) (hf : ∃ vs, oe.data = .fields vs) : CallR (X.suite a ((a, oe) :: pn)) (.builtin "isinstance") (rIsX X.K a cls d) := by
  intro pins s σ H xs us Q I r h
  obtain ⟨D, rfl, rfl, C, h⟩ := h
  exact call_isE C hz hf pins s σ H xs us Q I r h
def excCB (K : PySem.W.Frag) (D : Addr) : Bool := decide (PySem.W.findIn K (.ref D) "__getattribute__" = some (some (.builtin "BaseException.__getattribute__"))) && (decide (PySem.W.findIn K (.ref D) "__getattr__" = some none) && (decide (PySem.W.subIn K (.ref D) (.type "BaseException") = some true) && (PySem.W.hasDictIn K D && (decide (PySem.W.findIn K (.ref D) "__class__" = some (some (.builtin "object.__class__"))) && (decide (PySem.W.specialIn K (.builtin "object.__class__") "__get__" = some (some (.builtin "getset_descriptor.__get__"))) && (decide (PySem.W.takesIn K (.builtin "object.__class__") = some true) && decide (PySem.W.mroIn K D (.type "object") = some true)))))))
theorem excCB_ok {K : PySem.W.Frag} {D : Addr} (h : excCB K D = true) : ExcC K D := by
  obtain ⟨h1, h⟩ := He.ba h
  obtain ⟨h2, h⟩ := He.ba h
  obtain ⟨h3, h⟩ := He.ba h
  obtain ⟨h4, h⟩ := He.ba h
  obtain ⟨h5, h⟩ := He.ba h
  obtain ⟨h6, h⟩ := He.ba h
  obtain ⟨h7, h8⟩ := He.ba h
  exact ⟨of_decide_eq_true h1, of_decide_eq_true h2, of_decide_eq_true h3, h4, of_decide_eq_true h5, of_decide_eq_true h6, of_decide_eq_true h7, of_decide_eq_true h8⟩
/-- what an own class must have, so that isinstance asks its instances rightly -/
structure InsC (K : PySem.W.Frag) (C : Addr) : Prop where
  ha : PySem.W.findIn K (.ref C) "__class__" = some (some (.builtin "object.__class__"))
  hn : PySem.W.specialIn K (.builtin "object.__class__") "__get__" = some (some (.builtin "getset_descriptor.__get__"))
  ht : PySem.W.takesIn K (.builtin "object.__class__") = some true
  hm : PySem.W.mroIn K C (.type "object") = some true
def insCB (K : PySem.W.Frag) (D : Addr) : Bool := decide (PySem.W.findIn K (.ref D) "__class__" = some (some (.builtin "object.__class__"))) && (decide (PySem.W.specialIn K (.builtin "object.__class__") "__get__" = some (some (.builtin "getset_descriptor.__get__"))) && (decide (PySem.W.takesIn K (.builtin "object.__class__") = some true) && decide (PySem.W.mroIn K D (.type "object") = some true)))
theorem insCB_ok {K : PySem.W.Frag} {D : Addr} (h : insCB K D = true) : InsC K D := by
  obtain ⟨h1, h⟩ := He.ba h
  obtain ⟨h2, h⟩ := He.ba h
  obtain ⟨h3, h4⟩ := He.ba h
  exact ⟨of_decide_eq_true h1, of_decide_eq_true h2, of_decide_eq_true h3, of_decide_eq_true h4⟩
/-! ### roads reckoned -/
def wayOf (ring : Bool) (len one other : Int) : Int := if ring = true then (if 2 * ((other - one) % len) ≤ len then (other - one) % len else (other - one) % len - len) else other - one
def apartOf (ring : Bool) (len one other : Int) : Int := if wayOf ring len one other < 0 then - wayOf ring len one other else wayOf ring len one other
/-! ### days: stops as data, what is refused -/
abbrev Stp := Int × Int × Int × Int
def stopV (s : Stp) : List V := [.int s.1, .int s.2.1, .int s.2.2.1, .int s.2.2.2]
def StopsR (K : PySem.W.Frag) (H : Hp) (ps : List Addr) (sts : List Stp) : Prop := Paired (fun p s => SqT K H p (stopV s)) ps sts
theorem StopsR.ex {K : PySem.W.Frag} {H H' : Hp} {ps : List Addr} {sts : List Stp} (e : Ex H H') (h : StopsR K H ps sts) : StopsR K H' ps sts := Paired.mapP h fun _ _ q => Evl.ex_t e q
theorem StopsR.len {K : PySem.W.Frag} {H : Hp} {ps : List Addr} {sts : List Stp} (h : StopsR K H ps sts) : ps.length = sts.length := Paired.length h
theorem StopsR.get {K : PySem.W.Frag} {H : Hp} : ∀ {ps : List Addr} {sts : List Stp} {i : Nat} {p : Addr}, StopsR K H ps sts → ps[i]? = some p → ∃ s, sts[i]? = some s ∧ SqT K H p (stopV s)
  | [], _, i, p, _, e => by simp at e
  | _ :: _, [], _, _, h, _ => by cases h
  | a :: as, s :: ss, 0, p, h, e => by
    cases h with
    | cons r t =>
      simp at e
      subst e
      exact ⟨s, rfl, r⟩
  | a :: as, s :: ss, i + 1, p, h, e => by
    cases h with
    | cons r t =>
      obtain ⟨z, h1, h2⟩ := StopsR.get (i := i) (p := p) t (by simpa using e)
      exact ⟨z, by simpa using h1, h2⟩
theorem map_ref_get {ps : List Addr} {i : Nat} {x : V} (h : (ps.map V.ref)[i]? = some x) : ∃ p, ps[i]? = some p ∧ x = .ref p := by
  rw [List.getElem?_map] at h
  cases e : ps[i]? with
  | none => rw [e] at h; cases h
  | some p => rw [e] at h; exact ⟨p, rfl, (Option.some.inj h).symm⟩
theorem map_int_get {ps : List Int} {i : Nat} {x : V} (h : (ps.map V.int)[i]? = some x) : ∃ p, ps[i]? = some p ∧ x = .int p := by
  rw [List.getElem?_map] at h
  cases e : ps[i]? with
  | none => rw [e] at h; cases h
  | some p => rw [e] at h; exact ⟨p, rfl, (Option.some.inj h).symm⟩
theorem SqL.at_ins {K : PySem.W.Frag} {H : Hp} {a p C dx : Addr} {fs : List (Str × V)} {o : HO} {xs : List V} (hp : H p = some (.ins C dx fs)) (h : SqL K H a xs) : SqL K (upd H p o) a xs := by
  rcases h with (h | ⟨ob, h⟩) | h
  · exact .inl (.inl (by rw [upd_ne (ne_of h hp (by intro z; cases z))]; exact h))
  · exact .inl (.inr ⟨ob, by rw [upd_ne (ne_of h hp (by intro z; cases z))]; exact h⟩)
  · exact .inr h
theorem SqT.at_ins {K : PySem.W.Frag} {H : Hp} {a p C dx : Addr} {fs : List (Str × V)} {o : HO} {xs : List V} (hp : H p = some (.ins C dx fs)) (h : SqT K H a xs) : SqT K (upd H p o) a xs := by
  rcases h with (h | ⟨ob, h⟩) | h
  · exact .inl (.inl (by rw [upd_ne (ne_of h hp (by intro z; cases z))]; exact h))
  · exact .inl (.inr ⟨ob, by rw [upd_ne (ne_of h hp (by intro z; cases z))]; exact h⟩)
  · exact .inr h
theorem SqT.at_lst {K : PySem.W.Frag} {H : Hp} {a p : Addr} {ys : List V} {o : HO} {xs : List V} (hp : H p = some (.lst ys)) (h : SqT K H a xs) : SqT K (upd H p o) a xs := by
  rcases h with (h | ⟨ob, h⟩) | h
  · exact .inl (.inl (by rw [upd_ne (ne_of h hp (by intro z; cases z))]; exact h))
  · exact .inl (.inr ⟨ob, by rw [upd_ne (ne_of h hp (by intro z; cases z))]; exact h⟩)
  · exact .inr h
theorem StopsR.at_lst {K : PySem.W.Frag} {H : Hp} {p : Addr} {ys : List V} {o : HO} {ps : List Addr} {sts : List Stp} (hp : H p = some (.lst ys)) (h : StopsR K H ps sts) : StopsR K (upd H p o) ps sts := Paired.mapP h fun _ _ q => SqT.at_lst hp q
theorem StopsR.snoc {K : PySem.W.Frag} {H : Hp} {p : Addr} {s : Stp} (hs : SqT K H p (stopV s)) : ∀ {ps : List Addr} {sts : List Stp}, StopsR K H ps sts → StopsR K H (ps ++ [p]) (sts ++ [s])
  | [], [], _ => .cons hs .nil
  | [], _ :: _, h => by cases h
  | _ :: _, [], h => by cases h
  | _ :: _, _ :: _, h => by
    cases h with
    | cons r t => exact .cons r (StopsR.snoc hs t)
inductive Flt where
  | road | off | time | many
  deriving DecidableEq
def fltC (K : PySem.W.Frag) : Flt → Addr
  | .road => He.ga K "BadRoad"
  | .off => He.ga K "OffRoad"
  | .time => He.ga K "BadTime"
  | .many => He.ga K "TooMany"
def fltW : Flt → Str
  | .road => "road"
  | .off => "off"
  | .time => "time"
  | .many => "many"
def isTime (n : Int) : Prop := 0 ≤ n ∧ n ≤ 1000000000000
instance (n : Int) : Decidable (isTime n) := inferInstanceAs (Decidable (_ ∧ _))
def onRoad (ring : Bool) (len p : Int) : Prop := 0 ≤ p ∧ p < placesOf ring len
instance (ring : Bool) (len p : Int) : Decidable (onRoad ring len p) := inferInstanceAs (Decidable (_ ∧ _))
def stopFlt (ring : Bool) (len : Int) (s : Stp) : Option Flt := if ¬ onRoad ring len s.1 then some .off else if ¬ (isTime s.2.1 ∧ isTime s.2.2.1 ∧ isTime s.2.2.2) then some .time else if s.2.2.1 < s.2.1 then some .time else none
def stopsFlt (ring : Bool) (len : Int) : List Stp → Option Flt
  | [] => none
  | s :: r => match stopFlt ring len s with
    | some f => some f
    | none => stopsFlt ring len r
def isRoad (w : Str) (len : Int) : Prop := (w = "line" ∨ w = "ring") ∧ 1 ≤ len ∧ len ≤ 1000000000
instance (w : Str) (len : Int) : Decidable (isRoad w len) := inferInstanceAs (Decidable (_ ∧ _))
def dayFlt (w : Str) (len home start : Int) (sts : List Stp) : Option Flt := if ¬ isRoad w len then some .road else if ¬ onRoad (decide (w = "ring")) len home then some .off else if ¬ isTime start then some .time else if 7 < sts.length then some .many else stopsFlt (decide (w = "ring")) len sts
theorem in_roads (w : Str) : inV (.str w) [.str "line", .str "ring"] = decide (w = "line" ∨ w = "ring") := by
  by_cases h1 : w = "line"
  · subst h1
    decide +kernel
  · by_cases h2 : w = "ring"
    · subst h2
      decide +kernel
    · rw [decide_eq_false (by rintro (h | h); exact h1 h; exact h2 h)]
      have e1 : ("line" == w) = false := beq_eq_false_iff_ne.mpr (Ne.symm h1)
      have e2 : ("ring" == w) = false := beq_eq_false_iff_ne.mpr (Ne.symm h2)
      show ((eqV (.str "line") (.str w)) || ((eqV (.str "ring") (.str w)) || false)) = false
      show ((("line" : Str) == w) || ((("ring" : Str) == w) || false)) = false
      rw [e1, e2]; rfl
theorem isRoad_word {w : Str} {len : Int} (h : isRoad w len) : w = wordOf (decide (w = "ring")) ∧ 1 ≤ len := by
  obtain ⟨h1 | h1, h2, _⟩ := h
  · subst h1
    exact ⟨by decide +kernel, h2⟩
  · subst h1
    exact ⟨by decide +kernel, h2⟩
def dayFs (r l : Addr) (home start : Int) : List (Str × V) := [("road", .ref r), ("home", .int home), ("start", .int start), ("stops", .ref l)]
/-- a day as it stands: r its road, l its list of stops -/
def DayAt (K : PySem.W.Frag) (H : Hp) (d r l : Addr) (w : Str) (len home start : Int) (ps : List Addr) (sts : List Stp) : Prop :=
  (∃ dx, H d = some (.ins (He.ga K "Day") dx (dayFs r l home start))) ∧ SqT K H r [.str w, .int len] ∧ H l = some (.lst (ps.map V.ref)) ∧ StopsR K H ps sts
theorem DayAt.ex {K : PySem.W.Frag} {H H' : Hp} {d r l : Addr} {w : Str} {len home start : Int} {ps : List Addr} {sts : List Stp} (e : Ex H H') (h : DayAt K H d r l w len home start ps sts) : DayAt K H' d r l w len home start ps sts := by
  obtain ⟨⟨dx, h1⟩, h2, h3, h4⟩ := h
  exact ⟨⟨dx, e _ _ h1⟩, Evl.ex_t e h2, e _ _ h3, h4.ex e⟩
/-- another list may change -/
theorem DayAt.at_lst {K : PySem.W.Frag} {H : Hp} {d r l p : Addr} {w : Str} {len home start : Int} {ps : List Addr} {sts : List Stp} {ys : List V} {o : HO} (hp : H p = some (.lst ys)) (ne : l ≠ p) (h : DayAt K H d r l w len home start ps sts) : DayAt K (upd H p o) d r l w len home start ps sts := by
  obtain ⟨⟨dx, h1⟩, h2, h3, h4⟩ := h
  exact ⟨⟨dx, by rw [upd_ne (ne_of h1 hp (by intro z; cases z))]; exact h1⟩, SqT.at_lst hp h2, by rw [upd_ne ne]; exact h3, h4.at_lst hp⟩
def goodStop (ring : Bool) (len : Int) (s : Stp) : Prop := onRoad ring len s.1 ∧ 0 ≤ s.2.1 ∧ s.2.1 ≤ s.2.2.1 ∧ s.2.2.1 ≤ 1000000000000 ∧ 0 ≤ s.2.2.2 ∧ s.2.2.2 ≤ 1000000000000
theorem cut_from {xs : List V} {k : Nat} (h : k ≤ xs.length) : cutV xs (some (k : Int)) none = xs.drop k := by
  unfold cutV
  rw [HT.sIx_nat, HT.sIx_none, Nat.min_eq_left h]
  rw [List.take_of_length_le]
  rw [List.length_drop]
  omega
theorem cut_to {xs : List V} {k : Nat} (h : k ≤ xs.length) : cutV xs none (some (k : Int)) = xs.take k := by
  unfold cutV
  rw [HT.sIx_nat, HT.sIx_none, Nat.min_eq_left h]
  rfl
/-! ### data compared -/
def stopD (s : Stp) : PyData := .tuple [.int s.1, .int s.2.1, .int s.2.2.1, .int s.2.2.2]
def stopsD (sts : List Stp) : PyData := .list (sts.map stopD)
theorem stop_dp {K : PySem.W.Frag} {H : Hp} {p : Addr} {s : Stp} (h : SqT K H p (stopV s)) : Dp K H (.ref p) (stopD s) := .tup h (.cons (.int _) (.cons (.int _) (.cons (.int _) (.cons (.int _) .nil))))
theorem stops_dpAll {K : PySem.W.Frag} {H : Hp} : ∀ {ps : List Addr} {sts : List Stp}, StopsR K H ps sts → DpAll K H (ps.map V.ref) (sts.map stopD)
  | [], [], _ => .nil
  | [], _ :: _, h => by cases h
  | _ :: _, [], h => by cases h
  | _ :: _, _ :: _, h => by
    cases h with
    | cons r t => exact .cons (stop_dp r) (stops_dpAll t)
theorem stops_dp {K : PySem.W.Frag} {H : Hp} {l : Addr} {ps : List Addr} {sts : List Stp} (hl : SqL K H l (ps.map V.ref)) (h : StopsR K H ps sts) : Dp K H (.ref l) (stopsD sts) := .lst hl (stops_dpAll h)
theorem canLay_stops : ∀ sts : List Stp, PyData.canLayAll0 (sts.map stopD) = true
  | [] => by simp [PyData.canLayAll0]
  | s :: r => by
    have ih := canLay_stops r
    simp only [List.map_cons, PyData.canLayAll0, ih, Bool.and_true]
    simp [stopD, PyData.canLay0, PyData.canLayAll0]
theorem depth_stops : ∀ sts : List Stp, PyData.depthAll (sts.map stopD) ≤ 3
  | [] => by simp [PyData.depthAll]
  | s :: r => by
    have ih := depth_stops r
    simp only [List.map_cons, PyData.depthAll]
    have : PyData.depth (stopD s) ≤ 3 := by simp [stopD, PyData.depth, PyData.depthAll]
    omega
theorem shaped_stops (sts : List Stp) : SeqAt.shaped (stopsD sts) = true := by
  have h1 := canLay_stops sts
  have h2 := depth_stops sts
  unfold SeqAt.shaped stopsD
  rw [Bool.and_eq_true]
  refine ⟨by simpa [PyData.canLay0] using h1, decide_eq_true ?_⟩
  simp only [PyData.depth]
  omega
theorem eqv_self {d : PyData} (h : SeqAt.shaped d = true) : PyData.eqv d d = true := SeqAt.eqv_refl d (SeqAt.canLay_of_shaped h)

/-! ### a day as one list: a word, then numbers -/
def rawV (w : Str) (is : List Int) : List V := .str w :: is.map V.int
def stopI (s : Stp) : List Int := [s.1, s.2.1, s.2.2.1, s.2.2.2]
def rawI (len home start : Int) (sts : List Stp) : List Int := len :: home :: start :: sts.flatMap stopI
theorem chunks : ∀ (m : Nat) (is : List Int), is.length = 4 * m → ∃ sts : List Stp, sts.length = m ∧ is = sts.flatMap stopI
  | 0, is, h => by
    have e : is = [] := List.eq_nil_of_length_eq_zero (by omega)
    subst e
    exact ⟨[], rfl, rfl⟩
  | m + 1, [], h => by simp at h
  | m + 1, [_], h => by simp at h; omega
  | m + 1, [_, _], h => by simp at h; omega
  | m + 1, [_, _, _], h => by simp at h; omega
  | m + 1, a :: b :: c :: d :: r, h => by
    obtain ⟨sts, h1, h2⟩ := chunks m r (by simp at h; omega)
    exact ⟨(a, b, c, d) :: sts, by simp [h1], by rw [h2]; rfl⟩
theorem rawI_of {is : List Int} {m : Nat} (h : is.length = 3 + 4 * m) : ∃ len home start sts, is = rawI len home start sts ∧ sts.length = m := by
  match is, h with
  | [], h => simp at h; omega
  | [_], h => simp at h; omega
  | [_, _], h => simp at h; omega
  | a :: b :: c :: r, h =>
    obtain ⟨sts, h1, h2⟩ := chunks m r (by simp at h; omega)
    exact ⟨a, b, c, sts, by rw [h2]; rfl, h1⟩
theorem flat_len (sts : List Stp) : (sts.flatMap stopI).length = 4 * sts.length := by
  induction sts with
  | nil => rfl
  | cons s r ih =>
    rw [List.flatMap_cons, List.length_append, ih, List.length_cons]
    show 4 + 4 * r.length = 4 * (r.length + 1)
    omega
theorem rawI_len {len home start : Int} {sts : List Stp} : (rawI len home start sts).length = 3 + 4 * sts.length := by
  show (sts.flatMap stopI).length + 1 + 1 + 1 = _
  rw [flat_len]
  omega
theorem rawV_len {w : Str} {is : List Int} : (rawV w is).length = is.length + 1 := by
  show (is.map V.int).length + 1 = _
  rw [List.length_map]
theorem flat_at : ∀ {sts : List Stp} {i : Nat} {s : Stp} (j : Nat), sts[i]? = some s → j < 4 → (sts.flatMap stopI)[4 * i + j]? = (stopI s)[j]?
  | [], i, s, j, h, _ => by simp at h
  | a :: r, 0, s, j, h, hj => by
    have e : a = s := by simpa using h
    subst e
    rw [List.flatMap_cons, List.getElem?_append_left (by show 4 * 0 + j < 4; omega)]
    congr 1
    omega
  | a :: r, i + 1, s, j, h, hj => by
    have ih := flat_at (sts := r) (i := i) (s := s) j (by simpa using h) hj
    rw [List.flatMap_cons, List.getElem?_append_right (by show 4 ≤ 4 * (i + 1) + j; omega)]
    have e : 4 * (i + 1) + j - (stopI a).length = 4 * i + j := by show 4 * (i + 1) + j - 4 = _; omega
    rw [e, ih]
theorem raw_at {w : Str} {len home start : Int} {sts : List Stp} {i : Nat} {s : Stp} (h : sts[i]? = some s) :
    atI (rawV w (rawI len home start sts)) (4 + (i : Int) * 4) = some (.int s.1) ∧ atI (rawV w (rawI len home start sts)) (4 + (i : Int) * 4 + 1) = some (.int s.2.1) ∧
    atI (rawV w (rawI len home start sts)) (4 + (i : Int) * 4 + 2) = some (.int s.2.2.1) ∧ atI (rawV w (rawI len home start sts)) (4 + (i : Int) * 4 + 3) = some (.int s.2.2.2) := by
  have key : ∀ (j : Nat) (v : Int), j < 4 → (stopI s)[j]? = some v → atI (rawV w (rawI len home start sts)) (4 + (i : Int) * 4 + (j : Int)) = some (.int v) := by
    intro j v hj hv
    have e : (4 + (i : Int) * 4 + (j : Int)) = ((4 + 4 * i + j : Nat) : Int) := by omega
    rw [e]
    refine atI_nat ?_
    show (V.str w :: (rawI len home start sts).map V.int)[4 + 4 * i + j]? = _
    have e2 : 4 + 4 * i + j = (4 * i + j + 3) + 1 := by omega
    rw [e2, List.getElem?_cons_succ, List.getElem?_map]
    have e3 : (rawI len home start sts)[4 * i + j + 3]? = (sts.flatMap stopI)[4 * i + j]? := rfl
    rw [e3, flat_at j h hj, hv]
    rfl
  refine ⟨?_, key 1 _ (by decide) rfl, key 2 _ (by decide) rfl, key 3 _ (by decide) rfl⟩
  have k0 := key 0 s.1 (by decide) rfl
  have e : (4 + (i : Int) * 4 + ((0 : Nat) : Int)) = 4 + (i : Int) * 4 := by omega
  rw [e] at k0
  exact k0
theorem raw_0 {w : Str} {is : List Int} : atI (rawV w is) 0 = some (.str w) := atI_nat (j := 0) rfl
theorem raw_s {w : Str} {is : List Int} {j : Nat} {v : Int} (h : is[j]? = some v) : atI (rawV w is) ((j + 1 : Nat) : Int) = some (.int v) := by
  refine atI_nat ?_
  show (V.str w :: is.map V.int)[j + 1]? = _
  rw [List.getElem?_cons_succ, List.getElem?_map, h]
  rfl
theorem raw_1 {w : Str} {len : Int} {r : List Int} : atI (rawV w (len :: r)) 1 = some (.int len) := raw_s (j := 0) rfl
theorem raw_2 {w : Str} {len home : Int} {r : List Int} : atI (rawV w (len :: home :: r)) 2 = some (.int home) := raw_s (j := 1) rfl
theorem raw_3 {w : Str} {len home start : Int} {r : List Int} : atI (rawV w (len :: home :: start :: r)) 3 = some (.int start) := raw_s (j := 2) rfl
theorem rg4 : ∀ m : Nat, m < 28 → (4 : Int) ≠ 0 ∧ (4 : Int).natAbs < 1073741824 ∧ Builtin.Range.small 4 (4 + 4 * (m : Int)) 4 = true ∧ Builtin.Range.rangeSize 4 (4 + 4 * (m : Int)) 4 = m := by decide +kernel
/-! ### list.count of truth values -/
def eqkB (k : Bool) (v : Value) : Bool := match v with
  | .bool n => n == k
  | _ => false
theorem eqkB_at {k : Bool} {A : Around} {s : Shared} : ∀ {bs : List Bool} {us : List Value}, Vals (bs.map V.bl) us → ∀ y ∈ us, SeqAt.EqAt A s y (.bool k) (eqkB k y)
  | [], us, h => by
    cases h
    intro y hy
    cases hy
  | b :: bs, us, h => by
    cases h with
    | cons r t =>
      cases r
      intro y hy
      rcases List.mem_cons.mp hy with e | hy
      · subst e
        exact eqAt_V (y := .bl b) (x := .bl k) rfl rfl rfl rfl
      · exact eqkB_at t y hy
theorem eqkB_count {k : Bool} : ∀ {bs : List Bool} {us : List Value}, Vals (bs.map V.bl) us → us.countP (eqkB k) = bs.count k
  | [], us, h => by cases h; rfl
  | b :: bs, us, h => by
    cases h with
    | cons r t =>
      cases r
      have ih := eqkB_count (k := k) t
      rw [List.countP_cons, List.count_cons, ih] <;> rfl
/-- how many of the list's truth values are k -/
def rCntB (K : PySem.W.Frag) : V → List V → Hp → VK → Prop := fun x xs H Q => ∃ (p : Addr) (bs : List Bool) (k : Bool), x = .ref p ∧ xs = [.bl k] ∧ SqL K H p (bs.map V.bl) ∧ Q (.int (bs.count k : Nat)) H
theorem mt_countB {X : Cx} : MtR X "list.count" (rCntB X.K) := by
  intro ps0 st0 σ0 H0 xr as0 vr ur W0 Inv0 relx relas asked
  obtain ⟨l, bs, k, hx, has, hl, wish⟩ := asked
  subst hx has
  cases relx
  obtain ⟨kv, hkv, relk⟩ := relas.one
  subst hkv
  cases relk
  obtain ⟨vals, relv, ⟨ob, many, atl, isl, nod, sq⟩, _⟩ := Inv0.list hl
  obtain ⟨ocls, odd, odata, oslots⟩ := ob
  simp only at isl sq
  subst isl sq
  have num := eqkB_count (k := k) relv
  refine call_meets PySem.F.slot_list_count ⟨_, atl, rfl⟩ PySem.F.entry_list_count (PySem.F.args_list_count_2 _ _) (SeqAt.list_countAt l vals.toArray many odd oslots (.bool k) (eqkB k)) ⟨atl, fun y hy => eqkB_at relv y (by simpa using hy), ?_⟩
  refine ⟨.int (bs.count k : Nat), H0, Inv0.tok _, ⟨st0.toks, ?_⟩, wish⟩
  have both : ((vals.toArray.toList.countP (eqkB k) : Nat) : Int) = ((bs.count k : Nat) : Int) := congrArg Nat.cast num
  exact congrArg (fun z => Value.int z st0.toks) both

/-! ### what the top has left -/
structure Txt (K : PySem.W.Frag) (mg : Str → Option Value) (D : Str → FuncData) : Prop where
  F_is_road : FunD K "is_road" "is_road" (defArgs s_is_road) (defBody s_is_road) (defScope s_is_road) [] [] (He.ga K "is_road") (D "is_road")
  m_is_road : mg "is_road" = some (.ref (He.ga K "is_road"))
  b_is_road : Binds K (D "is_road") ["road"] []
  F_has_place : FunD K "has_place" "has_place" (defArgs s_has_place) (defBody s_has_place) (defScope s_has_place) [] [] (He.ga K "has_place") (D "has_place")
  m_has_place : mg "has_place" = some (.ref (He.ga K "has_place"))
  b_has_place : Binds K (D "has_place") ["road", "place"] []
  F_is_time : FunD K "is_time" "is_time" (defArgs s_is_time) (defBody s_is_time) (defScope s_is_time) [] [] (He.ga K "is_time") (D "is_time")
  m_is_time : mg "is_time" = some (.ref (He.ga K "is_time"))
  b_is_time : Binds K (D "is_time") ["number"] []
  F_check_stop : FunD K "check_stop" "check_stop" (defArgs s_check_stop) (defBody s_check_stop) (defScope s_check_stop) [] [] (He.ga K "check_stop") (D "check_stop")
  m_check_stop : mg "check_stop" = some (.ref (He.ga K "check_stop"))
  b_check_stop : Binds K (D "check_stop") ["road", "stop"] []
  F_check_day : FunD K "check_day" "check_day" (defArgs s_check_day) (defBody s_check_day) (defScope s_check_day) [] [] (He.ga K "check_day") (D "check_day")
  m_check_day : mg "check_day" = some (.ref (He.ga K "check_day"))
  b_check_day : Binds K (D "check_day") ["road", "home", "start", "stops"] []
  F_Day___init : FunD K "__init__" "Day.__init__" (defArgs s_Day___init) (defBody s_Day___init) (defScope s_Day___init) [] [] (He.ma K (He.ga K "Day") "__init__") (D "Day.__init__")
  b_Day___init : Binds K (D "Day.__init__") ["self", "road", "home", "start", "stops"] []
  F_law_cell_at : FunD K "_law_cell_at" "_law_cell_at" (defArgs s_law_cell_at) (defBody s_law_cell_at) (defScope s_law_cell_at) [] [] (He.ga K "_law_cell_at") (D "_law_cell_at")
  m_law_cell_at : mg "_law_cell_at" = some (.ref (He.ga K "_law_cell_at"))
  b_law_cell_at : Binds K (D "_law_cell_at") ["_law_script", "_law_k"] []
  F_law_wide : FunD K "_law_wide" "_law_wide" (defArgs s_law_wide) (defBody s_law_wide) (defScope s_law_wide) [] [] (He.ga K "_law_wide") (D "_law_wide")
  m_law_wide : mg "_law_wide" = some (.ref (He.ga K "_law_wide"))
  b_law_wide : Binds K (D "_law_wide") ["_law_cell", "_law_bound"] []
  F_law_whole : FunD K "_law_whole" "_law_whole" (defArgs s_law_whole) (defBody s_law_whole) (defScope s_law_whole) [] [] (He.ga K "_law_whole") (D "_law_whole")
  m_law_whole : mg "_law_whole" = some (.ref (He.ga K "_law_whole"))
  b_law_whole : Binds K (D "_law_whole") ["_law_found"] []
  F_law_road_by : FunD K "_law_road_by" "_law_road_by" (defArgs s_law_road_by) (defBody s_law_road_by) (defScope s_law_road_by) [] [] (He.ga K "_law_road_by") (D "_law_road_by")
  m_law_road_by : mg "_law_road_by" = some (.ref (He.ga K "_law_road_by"))
  b_law_road_by : Binds K (D "_law_road_by") ["_law_cell"] []
  F_law_places : FunD K "_law_places" "_law_places" (defArgs s_law_places) (defBody s_law_places) (defScope s_law_places) [] [] (He.ga K "_law_places") (D "_law_places")
  m_law_places : mg "_law_places" = some (.ref (He.ga K "_law_places"))
  b_law_places : Binds K (D "_law_places") ["_law_road"] []
  F_law_place_by : FunD K "_law_place_by" "_law_place_by" (defArgs s_law_place_by) (defBody s_law_place_by) (defScope s_law_place_by) [] [] (He.ga K "_law_place_by") (D "_law_place_by")
  m_law_place_by : mg "_law_place_by" = some (.ref (He.ga K "_law_place_by"))
  b_law_place_by : Binds K (D "_law_place_by") ["_law_road", "_law_cell"] []
  F_law_start_by : FunD K "_law_start_by" "_law_start_by" (defArgs s_law_start_by) (defBody s_law_start_by) (defScope s_law_start_by) [] [] (He.ga K "_law_start_by") (D "_law_start_by")
  m_law_start_by : mg "_law_start_by" = some (.ref (He.ga K "_law_start_by"))
  b_law_start_by : Binds K (D "_law_start_by") ["_law_road", "_law_cell"] []
  F_law_stop_by : FunD K "_law_stop_by" "_law_stop_by" (defArgs s_law_stop_by) (defBody s_law_stop_by) (defScope s_law_stop_by) [] [] (He.ga K "_law_stop_by") (D "_law_stop_by")
  m_law_stop_by : mg "_law_stop_by" = some (.ref (He.ga K "_law_stop_by"))
  b_law_stop_by : Binds K (D "_law_stop_by") ["_law_road", "_law_start", "_law_script", "_law_k"] []
  F_law_stops_by : FunD K "_law_stops_by" "_law_stops_by" (defArgs s_law_stops_by) (defBody s_law_stops_by) (defScope s_law_stops_by) [] [] (He.ga K "_law_stops_by") (D "_law_stops_by")
  m_law_stops_by : mg "_law_stops_by" = some (.ref (He.ga K "_law_stops_by"))
  b_law_stops_by : Binds K (D "_law_stops_by") ["_law_road", "_law_start", "_law_script", "_law_many"] []
  F_law_raw_by : FunD K "_law_raw_by" "_law_raw_by" (defArgs s_law_raw_by) (defBody s_law_raw_by) (defScope s_law_raw_by) [] [] (He.ga K "_law_raw_by") (D "_law_raw_by")
  m_law_raw_by : mg "_law_raw_by" = some (.ref (He.ga K "_law_raw_by"))
  b_law_raw_by : Binds K (D "_law_raw_by") ["_law_script"] []
  F_law_spoilt : FunD K "_law_spoilt" "_law_spoilt" (defArgs s_law_spoilt) (defBody s_law_spoilt) (defScope s_law_spoilt) [] [] (He.ga K "_law_spoilt") (D "_law_spoilt")
  m_law_spoilt : mg "_law_spoilt" = some (.ref (He.ga K "_law_spoilt"))
  b_law_spoilt : Binds K (D "_law_spoilt") ["_law_raw", "_law_cell", "_law_by"] []
  F_law_off : FunD K "_law_off" "_law_off" (defArgs s_law_off) (defBody s_law_off) (defScope s_law_off) [] [] (He.ga K "_law_off") (D "_law_off")
  m_law_off : mg "_law_off" = some (.ref (He.ga K "_law_off"))
  b_law_off : Binds K (D "_law_off") ["_law_raw", "_law_place"] []
  F_law_late : FunD K "_law_late" "_law_late" (defArgs s_law_late) (defBody s_law_late) (defScope s_law_late) [] [] (He.ga K "_law_late") (D "_law_late")
  m_law_late : mg "_law_late" = some (.ref (He.ga K "_law_late"))
  b_law_late : Binds K (D "_law_late") ["_law_time"] []
  F_law_due : FunD K "_law_due" "_law_due" (defArgs s_law_due) (defBody s_law_due) (defScope s_law_due) [] [] (He.ga K "_law_due") (D "_law_due")
  m_law_due : mg "_law_due" = some (.ref (He.ga K "_law_due"))
  b_law_due : Binds K (D "_law_due") ["_law_raw"] []
  F_law_made : FunD K "_law_made" "_law_made" (defArgs s_law_made) (defBody s_law_made) (defScope s_law_made) [] [] (He.ga K "_law_made") (D "_law_made")
  m_law_made : mg "_law_made" = some (.ref (He.ga K "_law_made"))
  b_law_made : Binds K (D "_law_made") ["_law_raw", "_law_stops"] []
  F_law_based : FunD K "_law_based" "_law_based" (defArgs s_law_based) (defBody s_law_based) (defScope s_law_based) [] [] (He.ga K "_law_based") (D "_law_based")
  m_law_based : mg "_law_based" = some (.ref (He.ga K "_law_based"))
  b_law_based : Binds K (D "_law_based") ["_law_raw", "_law_stops"] []
  F_law : FunD K "law" "law" (defArgs s_law) (defBody s_law) (defScope s_law) [] [] (He.ga K "law") (D "law")
  m_law : mg "law" = some (.ref (He.ga K "law"))
  b_law : Binds K (D "law") ["_law_script"] []
  m_RouteError : mg "RouteError" = some (.ref (He.ga K "RouteError"))
  x_RouteError : PySem.W.excIn K (He.ga K "RouteError") He.veBase "ValueError.__new__" = true
  kp_RouteError : PySem.W.keepIn K (.ref (He.ga K "RouteError")) = true
  sb_RouteError : PySem.W.subIn K (.ref (He.ga K "RouteError")) (.type "BaseException") = some true
  ty_RouteError : PySem.W.typeIn K (.ref (He.ga K "RouteError")) = some (.type "type")
  m_BadRoad : mg "BadRoad" = some (.ref (He.ga K "BadRoad"))
  x_BadRoad : PySem.W.excIn K (He.ga K "BadRoad") He.veBase "ValueError.__new__" = true
  kp_BadRoad : PySem.W.keepIn K (.ref (He.ga K "BadRoad")) = true
  sb_BadRoad : PySem.W.subIn K (.ref (He.ga K "BadRoad")) (.type "BaseException") = some true
  ty_BadRoad : PySem.W.typeIn K (.ref (He.ga K "BadRoad")) = some (.type "type")
  m_OffRoad : mg "OffRoad" = some (.ref (He.ga K "OffRoad"))
  x_OffRoad : PySem.W.excIn K (He.ga K "OffRoad") He.veBase "ValueError.__new__" = true
  kp_OffRoad : PySem.W.keepIn K (.ref (He.ga K "OffRoad")) = true
  sb_OffRoad : PySem.W.subIn K (.ref (He.ga K "OffRoad")) (.type "BaseException") = some true
  ty_OffRoad : PySem.W.typeIn K (.ref (He.ga K "OffRoad")) = some (.type "type")
  m_BadTime : mg "BadTime" = some (.ref (He.ga K "BadTime"))
  x_BadTime : PySem.W.excIn K (He.ga K "BadTime") He.veBase "ValueError.__new__" = true
  kp_BadTime : PySem.W.keepIn K (.ref (He.ga K "BadTime")) = true
  sb_BadTime : PySem.W.subIn K (.ref (He.ga K "BadTime")) (.type "BaseException") = some true
  ty_BadTime : PySem.W.typeIn K (.ref (He.ga K "BadTime")) = some (.type "type")
  m_TooMany : mg "TooMany" = some (.ref (He.ga K "TooMany"))
  x_TooMany : PySem.W.excIn K (He.ga K "TooMany") He.veBase "ValueError.__new__" = true
  kp_TooMany : PySem.W.keepIn K (.ref (He.ga K "TooMany")) = true
  sb_TooMany : PySem.W.subIn K (.ref (He.ga K "TooMany")) (.type "BaseException") = some true
  ty_TooMany : PySem.W.typeIn K (.ref (He.ga K "TooMany")) = some (.type "type")
  m_BadOrder : mg "BadOrder" = some (.ref (He.ga K "BadOrder"))
  x_BadOrder : PySem.W.excIn K (He.ga K "BadOrder") He.veBase "ValueError.__new__" = true
  kp_BadOrder : PySem.W.keepIn K (.ref (He.ga K "BadOrder")) = true
  sb_BadOrder : PySem.W.subIn K (.ref (He.ga K "BadOrder")) (.type "BaseException") = some true
  ty_BadOrder : PySem.W.typeIn K (.ref (He.ga K "BadOrder")) = some (.type "type")
  m_Missed : mg "Missed" = some (.ref (He.ga K "Missed"))
  x_Missed : PySem.W.excIn K (He.ga K "Missed") He.veBase "ValueError.__new__" = true
  kp_Missed : PySem.W.keepIn K (.ref (He.ga K "Missed")) = true
  sb_Missed : PySem.W.subIn K (.ref (He.ga K "Missed")) (.type "BaseException") = some true
  ty_Missed : PySem.W.typeIn K (.ref (He.ga K "Missed")) = some (.type "type")
  m_NoDay : mg "NoDay" = some (.ref (He.ga K "NoDay"))
  x_NoDay : PySem.W.excIn K (He.ga K "NoDay") He.veBase "ValueError.__new__" = true
  kp_NoDay : PySem.W.keepIn K (.ref (He.ga K "NoDay")) = true
  sb_NoDay : PySem.W.subIn K (.ref (He.ga K "NoDay")) (.type "BaseException") = some true
  ty_NoDay : PySem.W.typeIn K (.ref (He.ga K "NoDay")) = some (.type "type")
  m_Day : mg "Day" = some (.ref (He.ga K "Day"))
  cl_Day : Cls K (He.ga K "Day")
  k_Day : Mk K (He.ga K "Day") (He.ma K (He.ga K "Day") "__init__")
  na_Day_home : NoAttr K (He.ga K "Day") "home"
  na_Day_road : NoAttr K (He.ga K "Day") "road"
  na_Day_start : NoAttr K (He.ga K "Day") "start"
  na_Day_stops : NoAttr K (He.ga K "Day") "stops"
  e_OffRoad_BadRoad : PySem.W.exmOne K (.ref (He.ga K "OffRoad")) (.ref (He.ga K "BadRoad")) = some false
  e_OffRoad_OffRoad : PySem.W.exmOne K (.ref (He.ga K "OffRoad")) (.ref (He.ga K "OffRoad")) = some true
  e_OffRoad_BadTime : PySem.W.exmOne K (.ref (He.ga K "OffRoad")) (.ref (He.ga K "BadTime")) = some false
  e_OffRoad_TooMany : PySem.W.exmOne K (.ref (He.ga K "OffRoad")) (.ref (He.ga K "TooMany")) = some false
  e_OffRoad_RouteError : PySem.W.exmOne K (.ref (He.ga K "OffRoad")) (.ref (He.ga K "RouteError")) = some true
  e_BadTime_BadRoad : PySem.W.exmOne K (.ref (He.ga K "BadTime")) (.ref (He.ga K "BadRoad")) = some false
  e_BadTime_OffRoad : PySem.W.exmOne K (.ref (He.ga K "BadTime")) (.ref (He.ga K "OffRoad")) = some false
  e_BadTime_BadTime : PySem.W.exmOne K (.ref (He.ga K "BadTime")) (.ref (He.ga K "BadTime")) = some true
  e_BadTime_TooMany : PySem.W.exmOne K (.ref (He.ga K "BadTime")) (.ref (He.ga K "TooMany")) = some false
  e_BadTime_RouteError : PySem.W.exmOne K (.ref (He.ga K "BadTime")) (.ref (He.ga K "RouteError")) = some true
  e_BadRoad_BadRoad : PySem.W.exmOne K (.ref (He.ga K "BadRoad")) (.ref (He.ga K "BadRoad")) = some true
  e_BadRoad_OffRoad : PySem.W.exmOne K (.ref (He.ga K "BadRoad")) (.ref (He.ga K "OffRoad")) = some false
  e_BadRoad_BadTime : PySem.W.exmOne K (.ref (He.ga K "BadRoad")) (.ref (He.ga K "BadTime")) = some false
  e_BadRoad_TooMany : PySem.W.exmOne K (.ref (He.ga K "BadRoad")) (.ref (He.ga K "TooMany")) = some false
  e_BadRoad_RouteError : PySem.W.exmOne K (.ref (He.ga K "BadRoad")) (.ref (He.ga K "RouteError")) = some true
  e_TooMany_BadRoad : PySem.W.exmOne K (.ref (He.ga K "TooMany")) (.ref (He.ga K "BadRoad")) = some false
  e_TooMany_OffRoad : PySem.W.exmOne K (.ref (He.ga K "TooMany")) (.ref (He.ga K "OffRoad")) = some false
  e_TooMany_BadTime : PySem.W.exmOne K (.ref (He.ga K "TooMany")) (.ref (He.ga K "BadTime")) = some false
  e_TooMany_TooMany : PySem.W.exmOne K (.ref (He.ga K "TooMany")) (.ref (He.ga K "TooMany")) = some true
  e_TooMany_RouteError : PySem.W.exmOne K (.ref (He.ga K "TooMany")) (.ref (He.ga K "RouteError")) = some true
  c_LINE : ∃ u, mg "LINE" = some u ∧ RelV (.str "line") u
  c_RING : ∃ u, mg "RING" = some u ∧ RelV (.str "ring") u
  c_LONGEST : ∃ u, mg "LONGEST" = some u ∧ RelV (.int 1000000000) u
  c_LATEST : ∃ u, mg "LATEST" = some u ∧ RelV (.int 1000000000000) u
  c_MOST_STOPS : ∃ u, mg "MOST_STOPS" = some u ∧ RelV (.int 7) u
  m_min : mg "min" = none
  m_range : mg "range" = none
  m_list : mg "list" = none
  m_len : mg "len" = none
  m_isinstance : mg "isinstance" = none
  m_int : mg "int" = none
  m_max : mg "max" = none
  m_bool : mg "bool" = none
  m_ValueError : mg "ValueError" = none
  ec_OffRoad : ExcC K (He.ga K "OffRoad")
  ec_BadTime : ExcC K (He.ga K "BadTime")
  ec_BadRoad : ExcC K (He.ga K "BadRoad")
  ec_TooMany : ExcC K (He.ga K "TooMany")
  is_OffRoad_Day : PySem.W.kitOne K (.ref (He.ga K "OffRoad")) (.ref (He.ga K "Day")) = some false
  is_OffRoad_BadRoad : PySem.W.kitOne K (.ref (He.ga K "OffRoad")) (.ref (He.ga K "BadRoad")) = some false
  is_OffRoad_OffRoad : PySem.W.kitOne K (.ref (He.ga K "OffRoad")) (.ref (He.ga K "OffRoad")) = some true
  is_OffRoad_BadTime : PySem.W.kitOne K (.ref (He.ga K "OffRoad")) (.ref (He.ga K "BadTime")) = some false
  is_OffRoad_ValueError : PySem.W.kitOne K (.ref (He.ga K "OffRoad")) (.type "ValueError") = some true
  is_OffRoad_TooMany : PySem.W.kitOne K (.ref (He.ga K "OffRoad")) (.ref (He.ga K "TooMany")) = some false
  is_OffRoad_BadOrder : PySem.W.kitOne K (.ref (He.ga K "OffRoad")) (.ref (He.ga K "BadOrder")) = some false
  is_OffRoad_Missed : PySem.W.kitOne K (.ref (He.ga K "OffRoad")) (.ref (He.ga K "Missed")) = some false
  is_OffRoad_NoDay : PySem.W.kitOne K (.ref (He.ga K "OffRoad")) (.ref (He.ga K "NoDay")) = some false
  is_BadTime_Day : PySem.W.kitOne K (.ref (He.ga K "BadTime")) (.ref (He.ga K "Day")) = some false
  is_BadTime_BadRoad : PySem.W.kitOne K (.ref (He.ga K "BadTime")) (.ref (He.ga K "BadRoad")) = some false
  is_BadTime_OffRoad : PySem.W.kitOne K (.ref (He.ga K "BadTime")) (.ref (He.ga K "OffRoad")) = some false
  is_BadTime_BadTime : PySem.W.kitOne K (.ref (He.ga K "BadTime")) (.ref (He.ga K "BadTime")) = some true
  is_BadTime_ValueError : PySem.W.kitOne K (.ref (He.ga K "BadTime")) (.type "ValueError") = some true
  is_BadTime_TooMany : PySem.W.kitOne K (.ref (He.ga K "BadTime")) (.ref (He.ga K "TooMany")) = some false
  is_BadTime_BadOrder : PySem.W.kitOne K (.ref (He.ga K "BadTime")) (.ref (He.ga K "BadOrder")) = some false
  is_BadTime_Missed : PySem.W.kitOne K (.ref (He.ga K "BadTime")) (.ref (He.ga K "Missed")) = some false
  is_BadTime_NoDay : PySem.W.kitOne K (.ref (He.ga K "BadTime")) (.ref (He.ga K "NoDay")) = some false
  is_BadRoad_Day : PySem.W.kitOne K (.ref (He.ga K "BadRoad")) (.ref (He.ga K "Day")) = some false
  is_BadRoad_BadRoad : PySem.W.kitOne K (.ref (He.ga K "BadRoad")) (.ref (He.ga K "BadRoad")) = some true
  is_BadRoad_OffRoad : PySem.W.kitOne K (.ref (He.ga K "BadRoad")) (.ref (He.ga K "OffRoad")) = some false
  is_BadRoad_BadTime : PySem.W.kitOne K (.ref (He.ga K "BadRoad")) (.ref (He.ga K "BadTime")) = some false
  is_BadRoad_ValueError : PySem.W.kitOne K (.ref (He.ga K "BadRoad")) (.type "ValueError") = some true
  is_BadRoad_TooMany : PySem.W.kitOne K (.ref (He.ga K "BadRoad")) (.ref (He.ga K "TooMany")) = some false
  is_BadRoad_BadOrder : PySem.W.kitOne K (.ref (He.ga K "BadRoad")) (.ref (He.ga K "BadOrder")) = some false
  is_BadRoad_Missed : PySem.W.kitOne K (.ref (He.ga K "BadRoad")) (.ref (He.ga K "Missed")) = some false
  is_BadRoad_NoDay : PySem.W.kitOne K (.ref (He.ga K "BadRoad")) (.ref (He.ga K "NoDay")) = some false
  is_TooMany_Day : PySem.W.kitOne K (.ref (He.ga K "TooMany")) (.ref (He.ga K "Day")) = some false
  is_TooMany_BadRoad : PySem.W.kitOne K (.ref (He.ga K "TooMany")) (.ref (He.ga K "BadRoad")) = some false
  is_TooMany_OffRoad : PySem.W.kitOne K (.ref (He.ga K "TooMany")) (.ref (He.ga K "OffRoad")) = some false
  is_TooMany_BadTime : PySem.W.kitOne K (.ref (He.ga K "TooMany")) (.ref (He.ga K "BadTime")) = some false
  is_TooMany_ValueError : PySem.W.kitOne K (.ref (He.ga K "TooMany")) (.type "ValueError") = some true
  is_TooMany_TooMany : PySem.W.kitOne K (.ref (He.ga K "TooMany")) (.ref (He.ga K "TooMany")) = some true
  is_TooMany_BadOrder : PySem.W.kitOne K (.ref (He.ga K "TooMany")) (.ref (He.ga K "BadOrder")) = some false
  is_TooMany_Missed : PySem.W.kitOne K (.ref (He.ga K "TooMany")) (.ref (He.ga K "Missed")) = some false
  is_TooMany_NoDay : PySem.W.kitOne K (.ref (He.ga K "TooMany")) (.ref (He.ga K "NoDay")) = some false
  iy_Day : InsC K (He.ga K "Day")
  iz_Day : PySem.W.kitOne K (.ref (He.ga K "Day")) (.ref (He.ga K "Day")) = some true
  iz_str_Day : PySem.W.kitOne K (.type "str") (.ref (He.ga K "Day")) = some false
  iz_NoneType_Day : PySem.W.kitOne K (.type "NoneType") (.ref (He.ga K "Day")) = some false
  iz_bool_Day : PySem.W.kitOne K (.type "bool") (.ref (He.ga K "Day")) = some false
  iz_int_Day : PySem.W.kitOne K (.type "int") (.ref (He.ga K "Day")) = some false
section
variable {P : Program} {w : World} {K : PySem.W.Frag} {mg : Str → Option Value} {base : Heap} {D : Str → FuncData}
/-! #### is_road -/
def sp_is_road (K : PySem.W.Frag) : Sp := fun vs H Q _ => ∃ (r : Addr) (w : Str) (len : Int), vs = [.ref r] ∧ SqT K H r [.str w, .int len] ∧ ∀ H', Ex H H' → Q (.bl (decide (isRoad w len))) H'
set_option maxHeartbeats 4000000 in
theorem ok_is_road (T : Txt K mg D) : FnOk P w K mg base CX0 1 (He.ga K "is_road") (D "is_road") ["road"] (sp_is_road K) := by
  refine T.F_is_road.ok sc_is_road (fun vs H Q E h => ?_) (fun cdv A outer s H vs Q E hr h => ?_)
  · obtain ⟨_, _, _, rfl, _⟩ := h
    rfl
  obtain ⟨r, w', len, rfl, hS, q⟩ := h
  refine ⟨_, PSs.nox (pss_cons (ps_asg (pv 0) (pg_tup rfl (pgs_cons (pg_name (i := 1) sc_is_road.nd rfl (Or.inl rfl)) (pgs_cons (pg_name (i := 2) sc_is_road.nd rfl (Or.inl rfl)) pgs_nil))))
    (pss_one (ps_ret (pe_and (pe_cmpR op_in_seq (pv 1) (pe_tup (pa_cons (pe_globE rfl T.c_LINE) (pa_cons (pe_globE rfl T.c_RING) pa_nil))) rfl) (pe_one (pe_chain op_le op_le pe_int (pv 2) (pe_globE rfl T.c_LONGEST))))))), ?_⟩
  refine ⟨_, rfl, r, _, rfl, hS, rfl, ?_⟩
  walk_at "go"
  intro p hp
  refine ⟨p, _, rfl, Or.inr (SqT.of upd_same), rfl, rfl, _, rfl, ?_⟩
  have e := in_roads w'
  refine iteB (fun c => ?_) (fun c => ?_)
  · have c1 : w' = "line" ∨ w' = "ring" := of_decide_eq_true (e.symm.trans c)
    walk_at "go"
    refine iteB (fun c => ?_) (fun c => ?_)
    · have c2 := of_decide_eq_true c
      walk_at "go"
      have q' := q (upd H p (.tup [.str "line", .str "ring"])) (Evl.Ex.new hp)
      rw [dec_eq (r := len ≤ 1000000000) (by unfold isRoad; exact ⟨fun z => z.2.2, fun z => ⟨c1, c2, z⟩⟩)] at q'
      exact q'
    · have c2 := of_decide_eq_false c
      have q' := q (upd H p (.tup [.str "line", .str "ring"])) (Evl.Ex.new hp)
      rw [decide_eq_false (fun z => c2 z.2.1)] at q'
      exact q'
  · have c1 : ¬ (w' = "line" ∨ w' = "ring") := of_decide_eq_false (e.symm.trans c)
    have q' := q (upd H p (.tup [.str "line", .str "ring"])) (Evl.Ex.new hp)
    rw [decide_eq_false (fun z => c1 z.1)] at q'
    exact q'
/-! #### has_place -/
def sp_has_place (K : PySem.W.Frag) : Sp := fun vs H Q _ => ∃ (r : Addr) (ring : Bool) (len p : Int), vs = [.ref r, .int p] ∧ SqT K H r (roadV ring len) ∧ Q (.bl (decide (0 ≤ p ∧ p < placesOf ring len))) H
set_option maxHeartbeats 4000000 in
theorem ok_has_place (T : Txt K mg D) : FnOk P w K mg base CX0 1 (He.ga K "has_place") (D "has_place") ["road", "place"] (sp_has_place K) := by
  refine T.F_has_place.ok sc_has_place (fun vs H Q E h => ?_) (fun cdv A outer s H vs Q E hr h => ?_)
  · obtain ⟨_, _, _, _, rfl, _⟩ := h
    rfl
  obtain ⟨r, ring, len, p, rfl, hS, q⟩ := h
  refine ⟨_, PSs.nox (pss_cons (ps_asg (pv 0) (pg_tup rfl (pgs_cons (pg_name (i := 2) sc_has_place.nd rfl (Or.inl rfl)) (pgs_cons (pg_name (i := 3) sc_has_place.nd rfl (Or.inl rfl)) pgs_nil))))
    (pss_cons (ps_if (pt_cmpR op_eq (pv 2) (pe_globE rfl T.c_LINE) (nomark _)) (pss_one (ps_ret (pe_chain op_le op_le pe_int (pv 1) (pv 3)))) pss_nil)
    (pss_one (ps_ret (pe_chain op_le op_lt pe_int (pv 1) (pv 3)))))), ?_⟩
  refine ⟨_, rfl, r, _, rfl, hS, rfl, ?_⟩
  walk_at "go"
  refine iteB (fun c => ?_) (fun c => ?_)
  · have hr := (word_line ring).mp (of_decide_eq_true c)
    subst hr
    have hp : placesOf false len = len + 1 := rfl
    walk_at "go"
    refine iteB (fun c2 => ?_) (fun c2 => ?_)
    · have c3 := of_decide_eq_true c2
      walk_at "go"
      rw [dec_eq (r := p ≤ len) (by rw [hp]; omega)] at q
      exact q
    · have c3 := of_decide_eq_false c2
      rw [decide_eq_false (by omega)] at q
      exact q
  · have hr : ring = true := by
      cases ring with
      | true => rfl
      | false => exact absurd ((word_line false).mpr rfl) (of_decide_eq_false c)
    subst hr
    have hp : placesOf true len = len := rfl
    walk_at "go"
    refine iteB (fun c2 => ?_) (fun c2 => ?_)
    · have c3 := of_decide_eq_true c2
      walk_at "go"
      rw [dec_eq (r := p < len) (by rw [hp]; omega)] at q
      exact q
    · have c3 := of_decide_eq_false c2
      rw [decide_eq_false (by omega)] at q
      exact q
/-! #### is_time -/
def sp_is_time (K : PySem.W.Frag) : Sp := fun vs H Q _ => ∃ (n : Int), vs = [.int n] ∧ Q (.bl (decide (isTime n))) H
set_option maxHeartbeats 4000000 in
theorem ok_is_time (T : Txt K mg D) : FnOk P w K mg base CX0 1 (He.ga K "is_time") (D "is_time") ["number"] (sp_is_time K) := by
  refine T.F_is_time.ok sc_is_time (fun vs H Q E h => ?_) (fun cdv A outer s H vs Q E hr h => ?_)
  · obtain ⟨_, rfl, _⟩ := h
    rfl
  obtain ⟨n, rfl, q⟩ := h
  refine ⟨_, PSs.nox (pss_one (ps_ret (pe_chain op_le op_le pe_int (pv 0) (pe_globE rfl T.c_LATEST)))), ?_⟩
  walk_at "go"
  refine iteB (fun c => ?_) (fun c => ?_)
  · have c1 := of_decide_eq_true c
    walk_at "go"
    rw [dec_eq (r := n ≤ 1000000000000) (by unfold isTime; omega)] at q
    exact q
  · have c1 := of_decide_eq_false c
    rw [decide_eq_false (by unfold isTime; omega)] at q
    exact q
/-! #### _law_cell_at -/
def sp_law_cell_at (K : PySem.W.Frag) : Sp := fun vs H Q _ => ∃ (a : Addr) (ns : List Int) (k : Int), vs = [.ref a, .int k] ∧ SqL K H a (ns.map V.int) ∧ ns.length ≤ 63 ∧ ∀ v, Q (.int v) H
set_option maxHeartbeats 4000000 in
theorem ok_law_cell_at (T : Txt K mg D) : FnOk P w K mg base CX0 1 (He.ga K "_law_cell_at") (D "_law_cell_at") ["_law_script", "_law_k"] (sp_law_cell_at K) := by
  refine T.F_law_cell_at.ok sc_law_cell_at (fun vs H Q E h => ?_) (fun cdv A outer s H vs Q E hr h => ?_)
  · obtain ⟨_, _, _, rfl, _⟩ := h
    rfl
  obtain ⟨a, ns, k, rfl, hS, hn, q⟩ := h
  refine ⟨_, PSs.nox (pss_cons (ps_if (pt_cmpR op_eq (pe_callB call_len_seq rfl T.m_len PySem.boot_len (pa_cons (pv 0) pa_nil)) pe_int (nomark _)) (pss_one (ps_ret (pv 1))) pss_nil)
    (pss_one (ps_ret (pe_op op_add (pe_ix ix_list (pv 0) (pe_op op_mod (pv 1) (pe_callB call_len_seq rfl T.m_len PySem.boot_len (pa_cons (pv 0) pa_nil))) (fun _ _ => rfl)) (pe_op op_mul pe_int (pe_op op_fdiv (pv 1) (pe_callB call_len_seq rfl T.m_len PySem.boot_len (pa_cons (pv 0) pa_nil)))))))), ?_⟩
  have hl : (ns.map V.int).length = ns.length := List.length_map _
  walk_at "go"
  refine iteB (fun c => ?_) (fun c => ?_)
  · walk_at "go"
    exact q _
  · have c' : ¬ (((ns.map V.int).length : Nat) : Int) = 0 := fun z => of_decide_eq_false c (congrArg V.int z)
    have hp : (0 : Int) < (((ns.map V.int).length : Nat) : Int) := by omega
    have hj : k % (((ns.map V.int).length : Nat) : Int) < (((ns.map V.int).length : Nat) : Int) := Int.emod_lt_of_pos _ hp
    have hj0 : 0 ≤ k % (((ns.map V.int).length : Nat) : Int) := Int.emod_nonneg _ c'
    obtain ⟨v, hv, hv2⟩ := atI_lt hj0 hj
    obtain ⟨z, rfl⟩ : ∃ z, v = V.int z := by
      rw [List.getElem?_map] at hv2
      cases e : ns[(k % (((ns.map V.int).length : Nat) : Int)).toNat]? with
      | none => rw [e] at hv2; cases hv2
      | some z => rw [e] at hv2; exact ⟨z, (Option.some.inj hv2).symm⟩
    walk_at "go"
    exact q _
/-! #### _law_wide -/
def sp_law_wide (K : PySem.W.Frag) : Sp := fun vs H Q _ => ∃ (c b : Int), vs = [.int c, .int b] ∧ 0 < b ∧ ∀ v, 0 ≤ v → v < b → Q (.int v) H
set_option maxHeartbeats 4000000 in
theorem ok_law_wide (T : Txt K mg D) : FnOk P w K mg base CX0 1 (He.ga K "_law_wide") (D "_law_wide") ["_law_cell", "_law_bound"] (sp_law_wide K) := by
  refine T.F_law_wide.ok sc_law_wide (fun vs H Q E h => ?_) (fun cdv A outer s H vs Q E hr h => ?_)
  · obtain ⟨_, _, rfl, _⟩ := h
    rfl
  obtain ⟨c, b, rfl, hb, q⟩ := h
  refine ⟨_, PSs.nox (pss_one (ps_ret (pe_op op_mod (pe_op op_mod (pe_op op_mul (pv 0) pe_int) pe_int) (pv 1)))), ?_⟩
  walk_at "go"
  exact q _ (Int.emod_nonneg _ (by omega)) (Int.emod_lt_of_pos _ hb)
/-! #### _law_whole -/
def sp_law_whole (K : PySem.W.Frag) : Sp := fun vs H Q _ => ∃ (x : V), vs = [x] ∧ ((∃ i, x = .int i ∧ Q (.bl true) H) ∨ (x = .non ∧ Q (.bl false) H) ∨ (∃ b, x = .bl b ∧ Q (.bl false) H) ∨ (∃ b, x = .str b ∧ Q (.bl false) H))
set_option maxHeartbeats 4000000 in
theorem ok_law_whole (T : Txt K mg D) : FnOk P w K mg base CX0 1 (He.ga K "_law_whole") (D "_law_whole") ["_law_found"] (sp_law_whole K) := by
  refine T.F_law_whole.ok sc_law_whole (fun vs H Q E h => ?_) (fun cdv A outer s H vs Q E hr h => ?_)
  · obtain ⟨_, rfl, _⟩ := h
    rfl
  obtain ⟨x, rfl, q⟩ := h
  refine ⟨_, PSs.nox (pss_one (ps_ret (pe_and (pe_callB call_isi rfl T.m_isinstance (by decide +kernel) (pa_cons (pv 0) (pa_cons (pe_bltn (v := V.ty "int") (u := Value.type "int") rfl T.m_int (by decide +kernel) rfl) pa_nil))) (pe_one (pe_not (pe_callB call_isi rfl T.m_isinstance (by decide +kernel) (pa_cons (pv 0) (pa_cons (pe_bltn (v := V.ty "bool") (u := Value.type "bool") rfl T.m_bool (by decide +kernel) rfl) pa_nil)))))))), ?_⟩
  walk_at "go"
  rcases q with ⟨i, rfl, q⟩ | ⟨rfl, q⟩ | ⟨b, rfl, q⟩ | ⟨b, rfl, q⟩
  · refine ⟨_, _, _, _, true, rfl, .ty "int", .base (.int _), kit_ty (by decide +kernel), true, rfl, iteT ?_⟩
    walk_at "go"
    refine ⟨_, _, _, _, false, rfl, .ty "bool", .base (.int _), kit_ty (by decide +kernel), false, rfl, q⟩
  · exact ⟨_, _, _, _, false, rfl, .ty "int", .base .non, kit_ty (by decide +kernel), false, rfl, iteF q⟩
  · refine ⟨_, _, _, _, true, rfl, .ty "int", .base (.bl _), kit_ty (by decide +kernel), true, rfl, iteT ?_⟩
    walk_at "go"
    refine ⟨_, _, _, _, true, rfl, .ty "bool", .base (.bl _), kit_ty (by decide +kernel), true, rfl, q⟩
  · exact ⟨_, _, _, _, false, rfl, .ty "int", .base (.str _), kit_ty (by decide +kernel), false, rfl, iteF q⟩
/-! #### _law_places -/
def sp_law_places (K : PySem.W.Frag) : Sp := fun vs H Q _ => ∃ (r : Addr) (ring : Bool) (len : Int), vs = [.ref r] ∧ SqT K H r (roadV ring len) ∧ Q (.int (placesOf ring len)) H
set_option maxHeartbeats 4000000 in
theorem ok_law_places (T : Txt K mg D) : FnOk P w K mg base CX0 1 (He.ga K "_law_places") (D "_law_places") ["_law_road"] (sp_law_places K) := by
  refine T.F_law_places.ok sc_law_places (fun vs H Q E h => ?_) (fun cdv A outer s H vs Q E hr h => ?_)
  · obtain ⟨_, _, _, rfl, _⟩ := h
    rfl
  obtain ⟨r, ring, len, rfl, hS, q⟩ := h
  refine ⟨_, PSs.nox (pss_cons (ps_if (pt_cmpR op_eq (pe_ix ix_tup (pv 0) pe_int (fun _ _ => rfl)) pe_str (nomark _)) (pss_one (ps_ret (pe_op op_add (pe_ix ix_tup (pv 0) pe_int (fun _ _ => rfl)) pe_int))) pss_nil)
    (pss_one (ps_ret (pe_ix ix_tup (pv 0) pe_int (fun _ _ => rfl))))), ?_⟩
  have a0 : atI (roadV ring len) 0 = some (.str (wordOf ring)) := rfl
  have a1 : atI (roadV ring len) 1 = some (.int len) := rfl
  walk_at "go"
  refine iteB (fun c => ?_) (fun c => ?_)
  · have hr := (word_line ring).mp (of_decide_eq_true c)
    subst hr
    walk_at "go"
    exact q
  · have hr : ring = true := by
      cases ring with
      | true => rfl
      | false => exact absurd ((word_line false).mpr rfl) (of_decide_eq_false c)
    subst hr
    walk_at "go"
    exact q
/-! #### _law_off -/
def sp_law_off (K : PySem.W.Frag) : Sp := fun vs H Q _ => ∃ (l : Addr) (w : Str) (is : List Int) (p : Int), vs = [.ref l, .int p] ∧ H l = some (.lst (rawV w is)) ∧ ∃ len r, is = len :: r ∧ Q (.bl (decide (¬ (0 ≤ p ∧ p < len + (if w = "line" then 1 else 0))))) H
set_option maxHeartbeats 4000000 in
theorem ok_law_off (T : Txt K mg D) : FnOk P w K mg base CX0 1 (He.ga K "_law_off") (D "_law_off") ["_law_raw", "_law_place"] (sp_law_off K) := by
  refine T.F_law_off.ok sc_law_off (fun vs H Q E h => ?_) (fun cdv A outer s H vs Q E hr h => ?_)
  · obtain ⟨_, _, _, _, rfl, _⟩ := h
    rfl
  obtain ⟨l, w', is, p, rfl, hL, len, r, rfl, q⟩ := h
  refine ⟨_, PSs.nox (pss_one (ps_ret (pe_not (pe_chain op_le op_lt pe_int (pv 1) (pe_op op_add (pe_ix ix_list (pv 0) pe_int (fun _ _ => rfl)) (pe_callTy call_int1 rfl T.m_int (by decide +kernel) (pa_cons (pe_cmpR op_eq (pe_ix ix_list (pv 0) pe_int (fun _ _ => rfl)) pe_str (nomark _)) pa_nil))))))), ?_⟩
  have hLs : SqL K H l (rawV w' (len :: r)) := SqL.of hL
  have a0 : atI (rawV w' (len :: r)) 0 = some (.str w') := raw_0
  have a1 : atI (rawV w' (len :: r)) 1 = some (.int len) := raw_1
  walk_at "go"
  refine iteB (fun c => ?_) (fun c => ?_)
  · have c1 := of_decide_eq_true c
    walk_at "go"
    refine Or.inr ⟨_, rfl, ?_⟩
    walk_at "go"
    have e1 : (if decide (V.str w' = V.str (Str.ofString "line")) = true then (1 : Int) else 0) = if w' = "line" then 1 else 0 := by
      by_cases z : w' = "line"
      · subst z
        rw [if_pos rfl, if_pos (decide_eq_true rfl)]
      · rw [if_neg z, if_neg (fun y => z (V.str.inj (of_decide_eq_true y)))]
    rw [e1]
    have e2 : (!decide (p < len + if w' = "line" then 1 else 0)) = decide (¬ (0 ≤ p ∧ p < len + if w' = "line" then 1 else 0)) := by
      rw [← decide_not]
      exact dec_eq ⟨fun z y => z y.2, fun z y => z ⟨c1, y⟩⟩
    rw [← e2] at q
    exact q
  · have c1 := of_decide_eq_false c
    walk_at "go"
    have e : decide (¬ (0 ≤ p ∧ p < len + (if w' = "line" then 1 else 0))) = true := decide_eq_true (fun z => c1 z.1)
    rw [e] at q
    exact q
/-! #### _law_late -/
def sp_law_late (K : PySem.W.Frag) : Sp := fun vs H Q _ => ∃ (n : Int), vs = [.int n] ∧ Q (.bl (decide (¬ isTime n))) H
set_option maxHeartbeats 4000000 in
theorem ok_law_late (T : Txt K mg D) : FnOk P w K mg base CX0 1 (He.ga K "_law_late") (D "_law_late") ["_law_time"] (sp_law_late K) := by
  refine T.F_law_late.ok sc_law_late (fun vs H Q E h => ?_) (fun cdv A outer s H vs Q E hr h => ?_)
  · obtain ⟨_, rfl, _⟩ := h
    rfl
  obtain ⟨n, rfl, q⟩ := h
  refine ⟨_, PSs.nox (pss_one (ps_ret (pe_not (pe_chain op_le op_le pe_int (pv 0) (pe_op op_pow pe_int pe_int))))), ?_⟩
  have h12 : (10 : Int) ^ (12 : Int).toNat = 1000000000000 := by decide +kernel
  walk_at "go"
  refine iteB (fun c => ?_) (fun c => ?_)
  · have c1 := of_decide_eq_true c
    walk_at "go"
    rw [h12]
    have e2 : (!decide (n ≤ 1000000000000)) = decide (¬ isTime n) := by
      rw [← decide_not]
      exact dec_eq ⟨fun z y => z y.2, fun z y => z ⟨c1, y⟩⟩
    rw [← e2] at q
    exact q
  · have c1 := of_decide_eq_false c
    walk_at "go"
    have e : decide (¬ isTime n) = true := decide_eq_true (fun z => c1 z.1)
    rw [e] at q
    exact q
/-! #### check_stop -/
def sp_check_stop (K : PySem.W.Frag) : Sp := fun vs H Q E => ∃ (r t : Addr) (ring : Bool) (len : Int) (s : Stp), vs = [.ref r, .ref t] ∧ SqT K H r (roadV ring len) ∧ SqT K H t (stopV s) ∧
  (stopFlt ring len s = none → Q .non H) ∧ (∀ f, stopFlt ring len s = some f → E (.ref (fltC K f)) none H)
set_option maxHeartbeats 4000000 in
theorem ok_check_stop (T : Txt K mg D) : FnOk P w K mg base (L2.CX P w) 2 (He.ga K "check_stop") (D "check_stop") ["road", "stop"] (sp_check_stop K) := by
  refine T.F_check_stop.ok sc_check_stop (fun vs H Q E h => ?_) (fun cdv A outer s H vs Q E hr h => ?_)
  · obtain ⟨_, _, _, _, _, rfl, _⟩ := h
    rfl
  obtain ⟨r, t, ring, len, s, rfl, hR, hS, q1, q2⟩ := h
  refine ⟨_, (pss_cons (ps_asg (pv 1) (pg_tup rfl (pgs_cons (pg_name (i := 2) sc_check_stop.nd rfl (Or.inl rfl)) (pgs_cons (pg_name (i := 3) sc_check_stop.nd rfl (Or.inl rfl)) (pgs_cons (pg_name (i := 4) sc_check_stop.nd rfl (Or.inl rfl)) (pgs_cons (pg_name (i := 5) sc_check_stop.nd rfl (Or.inl rfl)) pgs_nil))))))
    (pss_cons (ps_if (pt_not (pt_val (pe_call (ok_has_place T) hr rfl T.m_has_place T.F_has_place.kp T.b_has_place .nil pass0 (pa_cons (pv 0) (pa_cons (pv 2) pa_nil))))) (pss_one (ps_raise rfl (takes_of rfl rfl rfl rfl) (pmk_own PySem.F.excBase_ValueError T.x_OffRoad T.m_OffRoad T.kp_OffRoad (raises_own T.sb_OffRoad T.ty_OffRoad) (by exact rfl)))) pss_nil)
    (pss_cons (ps_if (pt_not (PW.pt (pw_and (pt_val (pe_call (ok_is_time T) hr rfl T.m_is_time T.F_is_time.kp T.b_is_time .nil pass0 (pa_cons (pv 3) pa_nil))) (pw_and (pt_val (pe_call (ok_is_time T) hr rfl T.m_is_time T.F_is_time.kp T.b_is_time .nil pass0 (pa_cons (pv 4) pa_nil))) (pw_and1 (pt_val (pe_call (ok_is_time T) hr rfl T.m_is_time T.F_is_time.kp T.b_is_time .nil pass0 (pa_cons (pv 5) pa_nil)))))))) (pss_one (ps_raise rfl (takes_of rfl rfl rfl rfl) (pmk_own PySem.F.excBase_ValueError T.x_BadTime T.m_BadTime T.kp_BadTime (raises_own T.sb_BadTime T.ty_BadTime) (by exact rfl)))) pss_nil)
    (pss_one (ps_if (pt_cmpR op_lt (pv 4) (pv 3) (nomark _)) (pss_one (ps_raise rfl (takes_of rfl rfl rfl rfl) (pmk_own PySem.F.excBase_ValueError T.x_BadTime T.m_BadTime T.kp_BadTime (raises_own T.sb_BadTime T.ty_BadTime) (by exact rfl)))) pss_nil))))), ?_⟩
  refine ⟨_, rfl, t, _, rfl, hS, rfl, ?_⟩
  walk_at "go"
  refine ⟨r, ring, len, s.1, rfl, hR, ?_⟩
  walk_at "go"
  refine iteB (fun c => ?_) (fun c => ?_)
  · have c1 : ¬ onRoad ring len s.1 := fun z => by rw [decide_eq_true (show 0 ≤ s.1 ∧ s.1 < placesOf ring len from z)] at c; exact absurd c (by decide)
    exact q2 .off (by unfold stopFlt; rw [if_pos c1])
  · have c1 : onRoad ring len s.1 := by
      by_cases z : onRoad ring len s.1
      · exact z
      · rw [decide_eq_false (show ¬ (0 ≤ s.1 ∧ s.1 < placesOf ring len) from z)] at c; exact absurd c (by decide)
    have badT : ¬ (isTime s.2.1 ∧ isTime s.2.2.1 ∧ isTime s.2.2.2) → E (.ref (He.ga K "BadTime")) none H := fun z => q2 .time (by unfold stopFlt; rw [if_neg (fun y => y c1), if_pos z])
    walk_at "go"
    refine iteB (fun t1 => ?_) (fun t1 => ?_)
    case refine_2 =>
      refine iteTb rfl ?_
      exact badT fun z => of_decide_eq_false t1 z.1
    walk_at "go"
    refine iteB (fun t2 => ?_) (fun t2 => ?_)
    case refine_2 =>
      refine iteTb rfl ?_
      exact badT fun z => of_decide_eq_false t2 z.2.1
    walk_at "go"
    refine iteB (fun t3 => ?_) (fun t3 => ?_)
    · refine badT fun z => ?_
      rw [decide_eq_true z.2.2] at t3
      exact absurd t3 (by decide)
    have t3' : isTime s.2.2.2 := by
      by_cases z : isTime s.2.2.2
      · exact z
      · rw [decide_eq_false z] at t3; exact absurd t3 (by decide)
    have hT : isTime s.2.1 ∧ isTime s.2.2.1 ∧ isTime s.2.2.2 := ⟨of_decide_eq_true t1, of_decide_eq_true t2, t3'⟩
    walk_at "go"
    refine iteB (fun c2 => ?_) (fun c2 => ?_)
    · exact q2 .time (by unfold stopFlt; rw [if_neg (fun y => y c1), if_neg (fun y => y hT), if_pos (of_decide_eq_true c2)])
    · exact q1 (by unfold stopFlt; rw [if_neg (fun y => y c1), if_neg (fun y => y hT), if_neg (of_decide_eq_false c2)])
/-! #### _law_road_by -/
def sp_law_road_by (K : PySem.W.Frag) : Sp := fun vs H Q _ => ∃ (c : Int), vs = [.int c] ∧ ∀ (ring : Bool) (len : Int) (r : Addr) (H' : Hp), 1 ≤ len → len ≤ 1000000000 → Ex H H' → H r = none → H' r = some (.tup (roadV ring len)) → Q (.ref r) H'
theorem at4 {a b c d i : Int} (h0 : 0 ≤ i) (h4 : i < 4) : ∃ v, atI [V.int a, V.int b, V.int c, V.int d] i = some (.int v) ∧ (v = a ∨ v = b ∨ v = c ∨ v = d) := by
  have : i = 0 ∨ i = 1 ∨ i = 2 ∨ i = 3 := by omega
  rcases this with rfl | rfl | rfl | rfl
  · exact ⟨a, rfl, by simp⟩
  · exact ⟨b, rfl, by simp⟩
  · exact ⟨c, rfl, by simp⟩
  · exact ⟨d, rfl, by simp⟩
theorem at3 {a b c i : Int} (h0 : 0 ≤ i) (h4 : i < 3) : ∃ v, atI [V.int a, V.int b, V.int c] i = some (.int v) ∧ (v = a ∨ v = b ∨ v = c) := by
  have : i = 0 ∨ i = 1 ∨ i = 2 := by omega
  rcases this with rfl | rfl | rfl
  · exact ⟨a, rfl, by simp⟩
  · exact ⟨b, rfl, by simp⟩
  · exact ⟨c, rfl, by simp⟩
theorem at2 {a b i : Int} (h0 : 0 ≤ i) (h4 : i < 2) : ∃ v, atI [V.int a, V.int b] i = some (.int v) ∧ (v = a ∨ v = b) := by
  have : i = 0 ∨ i = 1 := by omega
  rcases this with rfl | rfl
  · exact ⟨a, rfl, by simp⟩
  · exact ⟨b, rfl, by simp⟩
theorem atRoad {c : Int} : ∃ ring, atI [V.str "line", V.str "ring"] (c % 2) = some (.str (wordOf ring)) := by
  have : c % 2 = 0 ∨ c % 2 = 1 := by omega
  rcases this with h | h <;> rw [h]
  · exact ⟨false, rfl⟩
  · exact ⟨true, rfl⟩
set_option maxHeartbeats 4000000 in
theorem ok_law_road_by (T : Txt K mg D) : FnOk P w K mg base CX0 2 (He.ga K "_law_road_by") (D "_law_road_by") ["_law_cell"] (sp_law_road_by K) := by
  refine T.F_law_road_by.ok sc_law_road_by (fun vs H Q E h => ?_) (fun cdv A outer s H vs Q E hr h => ?_)
  · obtain ⟨_, rfl, _⟩ := h
    rfl
  obtain ⟨c, rfl, q⟩ := h
  refine ⟨_, PSs.nox (pss_cons (ps_set (i := 1) sc_law_road_by.nd rfl (Or.inl rfl) (pe_op op_add pe_int (pe_op op_mod (pe_op op_fdiv (pv 0) pe_int) pe_int)))
    (Evl.pss_cut (ps_if (pt_cmpR op_eq (pe_op op_mod (pe_op op_fdiv (pv 0) pe_int) pe_int) pe_int (nomark _)) (pss_one (ps_set (i := 1) sc_law_road_by.nd rfl (Or.inl rfl) (pe_op op_add pe_int (pe_call (ok_law_wide T) hr rfl T.m_law_wide T.F_law_wide.kp T.b_law_wide .nil pass0 (pa_cons (pe_op op_fdiv (pv 0) pe_int) (pa_cons (pe_op op_pow pe_int pe_int) pa_nil)))))) pss_nil)
    (Evl.pss_cut (ps_if (pt_cmpR op_eq (pe_op op_mod (pe_op op_fdiv (pv 0) pe_int) pe_int) pe_int (nomark _)) (pss_one (ps_set (i := 1) sc_law_road_by.nd rfl (Or.inl rfl) (pe_ix ix_list (pe_lst (pa_cons pe_int (pa_cons pe_int (pa_cons pe_int (pa_cons (pe_op op_pow pe_int pe_int) pa_nil))))) (pe_op op_mod (pe_op op_fdiv (pv 0) pe_int) pe_int) (fun _ _ => rfl)))) pss_nil)
    (pss_one (ps_ret (pe_tup (pa_cons (pe_ix ix_list (pe_lst (pa_cons pe_str (pa_cons pe_str pa_nil))) (pe_op op_mod (pv 0) pe_int) (fun _ _ => rfl)) (pa_cons (pv 1) pa_nil)))))))), ?_⟩
  have h9 : (10 : Int) ^ (9 : Int).toNat = 1000000000 := by decide +kernel
  walk_at "go"
  refine ⟨fun σ' H' => ∃ len, 1 ≤ len ∧ len ≤ 1000000000 ∧ σ' = [some (V.int c), some (V.int len)] ∧ Ex H H', ?_, ?_⟩
  · walk_at "go"
    refine iteB (fun b => ?_) (fun b => ?_)
    · walk_at "go"
      intro v v0 v1
      walk_at "go"
      exact ⟨_, by omega, by omega, rfl, Ex.refl H⟩
    · exact ⟨_, by omega, by omega, rfl, Ex.refl H⟩
  rintro σ' H1 ⟨len, l1, l2, rfl, e1⟩
  refine ⟨fun σ' H' => ∃ len, 1 ≤ len ∧ len ≤ 1000000000 ∧ σ' = [some (V.int c), some (V.int len)] ∧ Ex H H', ?_, ?_⟩
  · walk_at "go"
    refine iteB (fun b => ?_) (fun b => ?_)
    · walk_at "go"
      intro p hp
      walk_at "go"
      obtain ⟨v, hv, hv2⟩ := at4 (a := 1) (b := 2) (c := 3) (d := 10 ^ (9 : Int).toNat) (i := c / 50 % 4) (by omega) (by omega)
      refine ⟨p, _, _, _, rfl, rfl, SqL.of upd_same, hv, ?_⟩
      exact ⟨_, by omega, by omega, rfl, e1.trans (Evl.Ex.new hp)⟩
    · exact ⟨_, l1, l2, rfl, e1⟩
  rintro σ' H2 ⟨len, l1, l2, rfl, e2⟩
  walk_at "go"
  intro p hp
  walk_at "go"
  obtain ⟨ring, hr⟩ := atRoad (c := c)
  refine ⟨p, _, _, _, rfl, rfl, SqL.of upd_same, hr, ?_⟩
  walk_at "go"
  intro r hr
  have e3 : Ex H (upd H2 p (.lst [V.str "line", V.str "ring"])) := e2.trans (Evl.Ex.new hp)
  exact q ring len r _ l1 l2 (e3.trans (Evl.Ex.new hr)) (Evl.fresh_back e3 hr) upd_same
/-! #### _law_place_by -/
def sp_law_place_by (K : PySem.W.Frag) : Sp := fun vs H Q _ => ∃ (r : Addr) (ring : Bool) (len c : Int), vs = [.ref r, .int c] ∧ SqT K H r (roadV ring len) ∧ 1 ≤ len ∧ ∀ v H', 0 ≤ v → v < placesOf ring len → Ex H H' → Q (.int v) H'
set_option maxHeartbeats 4000000 in
theorem ok_law_place_by (T : Txt K mg D) : FnOk P w K mg base CX0 2 (He.ga K "_law_place_by") (D "_law_place_by") ["_law_road", "_law_cell"] (sp_law_place_by K) := by
  refine T.F_law_place_by.ok sc_law_place_by (fun vs H Q E h => ?_) (fun cdv A outer s H vs Q E hr h => ?_)
  · obtain ⟨_, _, _, _, rfl, _⟩ := h
    rfl
  obtain ⟨r, ring, len, c, rfl, hS, hl, q⟩ := h
  refine ⟨_, PSs.nox (pss_cons (ps_set (i := 2) sc_law_place_by.nd rfl (Or.inl rfl) (pe_call (ok_law_places T) hr rfl T.m_law_places T.F_law_places.kp T.b_law_places .nil pass0 (pa_cons (pv 0) pa_nil)))
    (pss_cons (ps_if (pt_cmpR op_eq (pe_op op_mod (pv 1) pe_int) pe_int (nomark _)) (pss_one (ps_ret (pe_ix ix_list (pe_lst (pa_cons pe_int (pa_cons (pe_op op_sub (pv 2) pe_int) (pa_cons (pe_op op_fdiv (pv 2) pe_int) pa_nil)))) (pe_op op_mod (pe_op op_fdiv (pv 1) pe_int) pe_int) (fun _ _ => rfl)))) pss_nil)
    (pss_one (ps_ret (pe_call (ok_law_wide T) hr rfl T.m_law_wide T.F_law_wide.kp T.b_law_wide .nil pass0 (pa_cons (pe_op op_fdiv (pv 1) pe_int) (pa_cons (pv 2) pa_nil))))))), ?_⟩
  have hm : 1 ≤ placesOf ring len := by unfold placesOf; split <;> omega
  walk_at "go"
  refine ⟨r, ring, len, rfl, hS, ?_⟩
  walk_at "go"
  refine iteB (fun b => ?_) (fun b => ?_)
  · walk_at "go"
    intro p hp
    walk_at "go"
    obtain ⟨v, hv, hv2⟩ := at3 (a := 0) (b := placesOf ring len - 1) (c := placesOf ring len / 2) (i := c / 7 % 3) (by omega) (by omega)
    exact ⟨p, _, _, _, rfl, rfl, SqL.of upd_same, hv, q _ _ (by omega) (by omega) (Evl.Ex.new hp)⟩
  · walk_at "go"
    exact fun v v0 v1 => q _ _ v0 v1 (Ex.refl H)
/-! #### _law_start_by -/
def sp_law_start_by (K : PySem.W.Frag) : Sp := fun vs H Q _ => ∃ (r : Addr) (ring : Bool) (len c : Int), vs = [.ref r, .int c] ∧ SqT K H r (roadV ring len) ∧ 1 ≤ len ∧ len ≤ 1000000000 ∧ ∀ v, 0 ≤ v → v ≤ 1000000000000 → Q (.int v) H
set_option maxHeartbeats 4000000 in
theorem ok_law_start_by (T : Txt K mg D) : FnOk P w K mg base CX0 2 (He.ga K "_law_start_by") (D "_law_start_by") ["_law_road", "_law_cell"] (sp_law_start_by K) := by
  refine T.F_law_start_by.ok sc_law_start_by (fun vs H Q E h => ?_) (fun cdv A outer s H vs Q E hr h => ?_)
  · obtain ⟨_, _, _, _, rfl, _⟩ := h
    rfl
  obtain ⟨r, ring, len, c, rfl, hS, l1, l2, q⟩ := h
  refine ⟨_, PSs.nox (pss_cons (ps_if (pt_cmpR op_eq (pe_op op_mod (pv 1) pe_int) pe_int (nomark _)) (pss_one (ps_ret pe_int)) pss_nil)
    (pss_cons (ps_if (pt_cmpR op_eq (pe_op op_mod (pv 1) pe_int) pe_int (nomark _)) (pss_one (ps_ret (pe_op op_mod (pe_op op_fdiv (pv 1) pe_int) (pe_op op_add (pe_op op_mul pe_int (pe_ix ix_tup (pv 0) pe_int (fun _ _ => rfl))) pe_int)))) pss_nil)
    (pss_one (ps_ret (pe_call (ok_law_wide T) hr rfl T.m_law_wide T.F_law_wide.kp T.b_law_wide .nil pass0 (pa_cons (pe_op op_fdiv (pv 1) pe_int) (pa_cons (pe_op op_add (pe_op op_pow pe_int pe_int) pe_int) pa_nil))))))), ?_⟩
  have h12 : (10 : Int) ^ (12 : Int).toNat = 1000000000000 := by decide +kernel
  walk_at "go"
  refine iteB (fun b => ?_) (fun b => ?_)
  · walk_at "go"
    exact q _ (by decide) (by decide)
  walk_at "go"
  refine iteB (fun b => ?_) (fun b => ?_)
  · walk_at "go"
    have h1 := Int.emod_nonneg (c / 3) (show 2 * len + 1 ≠ 0 by omega)
    have h2 := Int.emod_lt_of_pos (c / 3) (show 0 < 2 * len + 1 by omega)
    exact q _ h1 (by show c / 3 % (2 * len + 1) ≤ _; omega)
  walk_at "go"
  exact fun v v0 v1 => q v v0 (by rw [h12] at v1; omega)
/-! #### _law_spoilt -/
theorem at7 {a b c d e f g : Str} {i : Int} (h0 : 0 ≤ i) (h7 : i < 7) : ∃ v, atI [V.str a, V.str b, V.str c, V.str d, V.str e, V.str f, V.str g] i = some (.str v) := by
  have : i = 0 ∨ i = 1 ∨ i = 2 ∨ i = 3 ∨ i = 4 ∨ i = 5 ∨ i = 6 := by omega
  rcases this with rfl | rfl | rfl | rfl | rfl | rfl | rfl <;> exact ⟨_, rfl⟩
theorem raw_int {w : Str} {is : List Int} {i : Int} (h0 : 1 ≤ i) (h1 : i < ((rawV w is).length : Nat)) : ∃ v, atI (rawV w is) i = some (.int v) := by
  rw [rawV_len] at h1
  have hj : (i - 1).toNat < is.length := by omega
  have e : i = (((i - 1).toNat + 1 : Nat) : Int) := by omega
  rw [e]
  exact ⟨_, raw_s (List.getElem?_eq_getElem hj)⟩
theorem raw_put {w : Str} {is : List Int} {k : Nat} (v : Int) (h : k < is.length) : cutV (rawV w is) none (some ((k + 1 : Nat) : Int)) ++ [V.int v] ++ cutV (rawV w is) (some ((k + 2 : Nat) : Int)) none = rawV w (is.set k v) := by
  rw [cut_to (by rw [rawV_len]; omega), cut_from (by rw [rawV_len]; omega)]
  unfold rawV
  rw [List.set_eq_take_append_cons_drop, if_pos h, List.map_append, List.map_cons, List.take_succ_cons, List.drop_succ_cons, List.map_take, List.map_drop]
  simp
def sp_law_spoilt (K : PySem.W.Frag) : Sp := fun vs H Q _ => ∃ (l : Addr) (w : Str) (is : List Int) (m : Nat) (c b : Int), vs = [.ref l, .int c, .int b] ∧ H l = some (.lst (rawV w is)) ∧ is.length = 3 + 4 * m ∧ m < 28 ∧ ∀ w' is' l' H', is'.length = 3 + 4 * m → Ex H H' → H l' = none → H' l' = some (.lst (rawV w' is')) → Q (.ref l') H'
set_option maxHeartbeats 4000000 in
theorem ok_law_spoilt (T : Txt K mg D) : FnOk P w K mg base CX0 2 (He.ga K "_law_spoilt") (D "_law_spoilt") ["_law_raw", "_law_cell", "_law_by"] (sp_law_spoilt K) := by
  refine T.F_law_spoilt.ok sc_law_spoilt (fun vs H Q E h => ?_) (fun cdv A outer s H vs Q E hr h => ?_)
  · obtain ⟨_, _, _, _, _, _, rfl, _⟩ := h
    rfl
  obtain ⟨l, w', is, m, c, b, rfl, hL, hlen, hm, q⟩ := h
  refine ⟨_, PSs.nox (pss_cons (ps_set (i := 3) sc_law_spoilt.nd rfl (Or.inl rfl) (pe_op op_mod (pv 1) (pe_callB call_len_seq rfl T.m_len PySem.boot_len (pa_cons (pv 0) pa_nil))))
    (pss_cons (ps_if (pt_cmpR op_eq (pv 3) pe_int (nomark _)) (pss_one (ps_ret (pe_op op_cat (pe_lst (pa_cons (pe_ix ix_list (pe_lst (pa_cons pe_str (pa_cons pe_str (pa_cons pe_str (pa_cons pe_str (pa_cons pe_str (pa_cons pe_str (pa_cons pe_str pa_nil)))))))) (pe_op op_mod (pv 2) pe_int) (fun _ _ => rfl)) pa_nil)) (pe_slice sl_list (pv 0) (po_some pe_int) po_none)))) pss_nil)
    (pss_cons (ps_set (i := 4) sc_law_spoilt.nd rfl (Or.inl rfl) (pe_op op_add pe_int (pe_op op_mul (pe_op op_mod (pe_op op_fdiv (pv 2) pe_int) pe_int) (pe_call (ok_law_wide T) hr rfl T.m_law_wide T.F_law_wide.kp T.b_law_wide .nil pass0 (pa_cons (pe_op op_fdiv (pv 2) pe_int) (pa_cons (pe_op op_pow pe_int pe_int) pa_nil))))))
    (pss_cons (ps_set (i := 5) sc_law_spoilt.nd rfl (Or.inl rfl) (pe_ix ix_list (pe_lst (pa_cons (pe_un un_neg (pv 4)) (pa_cons (pe_op op_add (pe_op op_pow pe_int pe_int) (pv 4)) (pa_cons (pe_op op_pow pe_int pe_int) (pa_cons pe_int pa_nil))))) (pe_op op_mod (pv 2) pe_int) (fun _ _ => rfl)))
    (Evl.pss_cut (ps_if (pt_cmpR op_eq (pv 3) pe_int (nomark _)) (pss_one (ps_set (i := 5) sc_law_spoilt.nd rfl (Or.inl rfl) (pe_ix ix_list (pe_lst (pa_cons pe_int (pa_cons (pe_un un_neg (pv 4)) (pa_cons (pe_op op_add (pe_op op_pow pe_int pe_int) (pv 4)) (pa_cons (pe_op op_pow pe_int pe_int) pa_nil))))) (pe_op op_mod (pv 2) pe_int) (fun _ _ => rfl)))) pss_nil)
    (Evl.pss_cut (ps_if (PW.pt (pw_or (pt_cmpR op_eq (pv 3) pe_int (nomark _)) (pw_or1 (PW.pt (pw_and (pt_cmpR op_gt (pv 3) pe_int (nomark _)) (pw_and1 (pt_cmpR op_eq (pe_op op_mod (pv 3) pe_int) pe_int (nomark _)))))))) (pss_one (ps_set (i := 5) sc_law_spoilt.nd rfl (Or.inl rfl) (pe_ix ix_list (pe_lst (pa_cons (pe_un un_neg (pv 4)) (pa_cons (pe_op op_sub (pe_op op_add (pe_op op_add (pe_ix ix_list (pv 0) pe_int (fun _ _ => rfl)) (pe_callTy call_int1 rfl T.m_int (by decide +kernel) (pa_cons (pe_cmpR op_eq (pe_ix ix_list (pv 0) pe_int (fun _ _ => rfl)) pe_str (nomark _)) pa_nil))) (pv 4)) pe_int) pa_nil))) (pe_op op_mod (pv 2) pe_int) (fun _ _ => rfl)))) pss_nil)
    (Evl.pss_cut (ps_if (PW.pt (pw_and (pt_cmpR op_gt (pv 3) pe_int (nomark _)) (pw_and (pt_cmpR op_eq (pe_op op_mod (pv 3) pe_int) pe_int (nomark _)) (pw_and1 (pt_cmpR op_eq (pe_op op_mod (pe_op op_fdiv (pv 2) pe_int) pe_int) pe_int (nomark _)))))) (pss_one (ps_set (i := 5) sc_law_spoilt.nd rfl (Or.inl rfl) (pe_op op_sub (pe_ix ix_list (pv 0) (pe_op op_sub (pv 3) pe_int) (fun _ _ => rfl)) pe_int))) pss_nil)
    (pss_one (ps_ret (pe_op op_cat (pe_op op_cat (pe_slice sl_list (pv 0) po_none (po_some (pv 3))) (pe_lst (pa_cons (pv 5) pa_nil))) (pe_slice sl_list (pv 0) (po_some (pe_op op_add (pv 3) pe_int)) po_none))))))))))), ?_⟩
  have hLs : SqL K H l (rawV w' is) := SqL.of hL
  have hn : (rawV w' is).length = 4 + 4 * m := by rw [rawV_len, hlen]; omega
  have h12 : (10 : Int) ^ (12 : Int).toNat = 1000000000000 := by decide +kernel
  have hpos : (0 : Int) < (((rawV w' is).length : Nat) : Int) := by omega
  have k0 := Int.emod_nonneg c (show (((rawV w' is).length : Nat) : Int) ≠ 0 by omega)
  have k1 := Int.emod_lt_of_pos c hpos
  walk_at "go"
  refine iteB (fun z => ?_) (fun z => ?_)
  · walk_at "go"
    intro p hp
    walk_at "go"
    obtain ⟨v, hv⟩ := at7 (a := "lane") (b := "Line") (c := "RING") (d := "rin") (e := "") (f := "rings") (g := "line ") (i := b % 7) (by omega) (by omega)
    refine ⟨p, _, _, _, rfl, rfl, SqL.of upd_same, hv, ?_⟩
    walk_at "go"
    intro p2 hp2
    have ea : Ex H (upd (upd H p (.lst [V.str "lane", V.str "Line", V.str "RING", V.str "rin", V.str "", V.str "rings", V.str "line "])) p2 (.lst [V.str v])) := (Evl.Ex.new hp).trans (Evl.Ex.new hp2)
    have hLa := Evl.ex_l ea hLs
    walk_at "go"
    intro p3 hp3
    have n1 : p2 ≠ p3 := fun y => by rw [← y, upd_same] at hp3; cases hp3
    refine ⟨p2, p3, _, _, rfl, rfl, (by rw [upd_ne n1]; exact upd_same), upd_same, ?_, fun p4 hp4 => ?_⟩
    · have h1 := cutV_length (rawV w' is) (some (1 : Int)) none
      exact Evl.sz_of (by show 1 + _ ≤ 100000; omega)
    · have er : [V.str v] ++ cutV (rawV w' is) (some (1 : Int)) none = rawV v is := by
        have h1 := cut_from (xs := rawV w' is) (k := 1) (by omega)
        have h2 : cutV (rawV w' is) (some (1 : Int)) none = (rawV w' is).drop 1 := h1
        rw [h2]
        rfl
      rw [er]
      exact q v is p4 _ hlen ((ea.trans (Evl.Ex.new hp3)).trans (Evl.Ex.new hp4)) (Evl.fresh_back (ea.trans (Evl.Ex.new hp3)) hp4) upd_same
  have z0 : c % (((rawV w' is).length : Nat) : Int) ≠ 0 := fun y => odf z (congrArg V.int y)
  walk_at "go"
  intro far f0 f1
  walk_at "go"
  refine And.intro (show CMul (b / 16 % 5) far from Or.inl ⟨by omega, by omega⟩) ?_
  walk_at "go"
  intro p hp
  walk_at "go"
  obtain ⟨v, hv, _⟩ := at4 (a := -(1 + b / 16 % 5 * far)) (b := 10 ^ (12 : Int).toNat + (1 + b / 16 % 5 * far)) (c := 10 ^ (12 : Int).toNat) (d := 0) (i := b % 4) (by omega) (by omega)
  refine ⟨p, _, _, _, rfl, rfl, SqL.of upd_same, hv, ?_⟩
  have e1 : Ex H (upd H p (.lst [V.int (-(1 + b / 16 % 5 * far)), V.int (10 ^ (12 : Int).toNat + (1 + b / 16 % 5 * far)), V.int (10 ^ (12 : Int).toNat), V.int 0])) := Evl.Ex.new hp
  obtain ⟨i1, hi1⟩ := raw_int (w := w') (is := is) (i := 1) (by decide) (by omega)
  have i0 : atI (rawV w' is) 0 = some (.str w') := raw_0
  refine ⟨fun σ' H' => ∃ v, σ' = [some (.ref l), some (.int c), some (.int b), some (.int (c % (((rawV w' is).length : Nat) : Int))), some (.int (1 + b / 16 % 5 * far)), some (.int v)] ∧ Ex H H', ?_, ?_⟩
  · walk_at "go"
    refine iteB (fun y => ?_) (fun y => ?_)
    · walk_at "go"
      intro p2 hp2
      walk_at "go"
      obtain ⟨v, hv, _⟩ := at4 (a := 0) (b := -(1 + b / 16 % 5 * far)) (c := 10 ^ (9 : Int).toNat + (1 + b / 16 % 5 * far)) (d := 10 ^ (9 : Int).toNat) (i := b % 4) (by omega) (by omega)
      exact ⟨p2, _, _, _, rfl, rfl, SqL.of upd_same, hv, v, rfl, e1.trans (Evl.Ex.new hp2)⟩
    · exact ⟨v, rfl, e1⟩
  rintro σ' H2 ⟨v2, rfl, e2⟩
  have hL2 : SqL K H2 l (rawV w' is) := Evl.ex_l e2 hLs
  refine ⟨fun σ' H' => ∃ v, σ' = [some (.ref l), some (.int c), some (.int b), some (.int (c % (((rawV w' is).length : Nat) : Int))), some (.int (1 + b / 16 % 5 * far)), some (.int v)] ∧ Ex H H', ?_, ?_⟩
  · walk_at "go"
    refine iteB (fun y1 => ?_) (fun y1 => ?_)
    · walk_at "go"
      refine Or.inr ⟨_, rfl, ?_⟩
      walk_at "go"
      intro p2 hp2
      walk_at "go"
      obtain ⟨v, hv, _⟩ := at2 (a := -(1 + b / 16 % 5 * far)) (b := i1 + (if decide (V.str w' = V.str "line") = true then 1 else 0) + (1 + b / 16 % 5 * far) - 1) (i := b % 2) (by omega) (by omega)
      exact ⟨p2, _, _, _, rfl, rfl, SqL.of upd_same, hv, v, rfl, e2.trans (Evl.Ex.new hp2)⟩
    · walk_at "go"
      refine iteB (fun y2 => ?_) (fun y2 => ?_)
      · walk_at "go"
        refine iteB (fun y3 => ?_) (fun y3 => ?_)
        · walk_at "go"
          refine Or.inr ⟨_, rfl, ?_⟩
          walk_at "go"
          intro p2 hp2
          walk_at "go"
          obtain ⟨v, hv, _⟩ := at2 (a := -(1 + b / 16 % 5 * far)) (b := i1 + (if decide (V.str w' = V.str "line") = true then 1 else 0) + (1 + b / 16 % 5 * far) - 1) (i := b % 2) (by omega) (by omega)
          exact ⟨p2, _, _, _, rfl, rfl, SqL.of upd_same, hv, v, rfl, e2.trans (Evl.Ex.new hp2)⟩
        · exact ⟨v2, rfl, e2⟩
      · exact ⟨v2, rfl, e2⟩
  rintro σ' H3 ⟨v3, rfl, e3⟩
  have hL3 : SqL K H3 l (rawV w' is) := Evl.ex_l e3 hLs
  refine ⟨fun σ' H' => ∃ v, σ' = [some (.ref l), some (.int c), some (.int b), some (.int (c % (((rawV w' is).length : Nat) : Int))), some (.int (1 + b / 16 % 5 * far)), some (.int v)] ∧ Ex H H', ?_, ?_⟩
  · walk_at "go"
    refine iteB (fun y1 => ?_) (fun y1 => ?_)
    · walk_at "go"
      refine iteB (fun y2 => ?_) (fun y2 => ?_)
      · walk_at "go"
        refine iteB (fun y3 => ?_) (fun y3 => ?_)
        · have y1' : 3 < c % (((rawV w' is).length : Nat) : Int) := odt y1
          obtain ⟨v, hv⟩ := raw_int (w := w') (is := is) (i := c % (((rawV w' is).length : Nat) : Int) - 1) (by omega) (by omega)
          walk_at "go"
          exact e3
        · exact ⟨v3, rfl, e3⟩
      · exact ⟨v3, rfl, e3⟩
    · exact ⟨v3, rfl, e3⟩
  rintro σ' H4 ⟨v4, rfl, e4⟩
  have hL4 : SqL K H4 l (rawV w' is) := Evl.ex_l e4 hLs
  obtain ⟨kn, hk⟩ : ∃ kn : Nat, c % (((rawV w' is).length : Nat) : Int) = ((kn + 1 : Nat) : Int) := ⟨(c % (((rawV w' is).length : Nat) : Int) - 1).toNat, by omega⟩
  have hkn : kn < is.length := by omega
  walk_at "go"
  rw [hk]
  intro p4 hp4
  walk_at "go"
  intro p5 hp5
  have n5 : p4 ≠ p5 := fun y => by rw [← y, upd_same] at hp5; cases hp5
  refine ⟨p4, p5, _, _, rfl, rfl, (by rw [upd_ne n5]; exact upd_same), upd_same, ?_, fun p6 hp6 => ?_⟩
  · have h1 := cutV_length (rawV w' is) none (some (((kn + 1 : Nat)) : Int))
    exact Evl.sz_of (by show _ + 1 ≤ 100000; omega)
  have e6 : Ex H4 (upd (upd (upd H4 p4 (.lst (cutV (rawV w' is) none (some (((kn + 1 : Nat)) : Int))))) p5 (.lst [V.int v4])) p6 (.lst (cutV (rawV w' is) none (some (((kn + 1 : Nat)) : Int)) ++ [V.int v4]))) := ((Evl.Ex.new hp4).trans (Evl.Ex.new hp5)).trans (Evl.Ex.new hp6)
  have hL6 := Evl.ex_l e6 hL4
  walk_at "go"
  intro p7 hp7
  have n7 : p6 ≠ p7 := fun y => by rw [← y, upd_same] at hp7; cases hp7
  refine ⟨p6, p7, _, _, rfl, rfl, (by rw [upd_ne n7]; exact upd_same), upd_same, ?_, fun p8 hp8 => ?_⟩
  · have h1 := cutV_length (rawV w' is) none (some (((kn + 1 : Nat)) : Int))
    have h2 := cutV_length (rawV w' is) (some (((kn + 1 : Nat) : Int) + 1)) none
    rw [List.length_append]
    exact Evl.sz_of (by show _ + 1 + _ ≤ 100000; omega)
  · have ek : ((kn + 1 : Nat) : Int) + 1 = ((kn + 2 : Nat) : Int) := by omega
    rw [ek, raw_put v4 hkn]
    exact q w' (is.set kn v4) p8 _ (by rw [List.length_set]; exact hlen) (((e4.trans e6).trans (Evl.Ex.new hp7)).trans (Evl.Ex.new hp8)) (Evl.fresh_back ((e4.trans e6).trans (Evl.Ex.new hp7)) hp8) upd_same
/-! #### _law_due -/
def dueW : Option Flt → Str
  | none => "day"
  | some f => fltW f
def sp_law_due (K : PySem.W.Frag) : Sp := fun vs H Q _ => ∃ (l : Addr) (w : Str) (len home start : Int) (sts : List Stp), vs = [.ref l] ∧ H l = some (.lst (rawV w (rawI len home start sts))) ∧ sts.length < 28 ∧ Q (.str (dueW (dayFlt w len home start sts))) H
theorem off_on {w : Str} {len p : Int} (h : w = "line" ∨ w = "ring") : (0 ≤ p ∧ p < len + (if w = "line" then 1 else 0)) ↔ onRoad (decide (w = "ring")) len p := by
  unfold onRoad placesOf
  rcases h with h | h
  · subst h
    rw [if_pos rfl, decide_eq_false (by decide +kernel), if_neg (by decide)]
  · subst h
    rw [if_neg (by decide +kernel), decide_eq_true rfl, if_pos rfl]
    try omega
set_option maxHeartbeats 4000000 in
theorem ok_law_due (T : Txt K mg D) : FnOk P w K mg base CX0 2 (He.ga K "_law_due") (D "_law_due") ["_law_raw"] (sp_law_due K) := by
  refine T.F_law_due.ok sc_law_due (fun vs H Q E h => ?_) (fun cdv A outer s H vs Q E hr h => ?_)
  · obtain ⟨_, _, _, _, _, _, rfl, _⟩ := h
    rfl
  obtain ⟨l, w', len, home, start, sts, rfl, hL, hm, q⟩ := h
  refine ⟨_, PSs.nox (Evl.pss_cut (ps_if (PW.pt (pw_or (PW.pt (pw_and (pt_cmpR op_ne (pe_ix ix_list (pv 0) pe_int (fun _ _ => rfl)) pe_str (nomark _)) (pw_and1 (pt_cmpR op_ne (pe_ix ix_list (pv 0) pe_int (fun _ _ => rfl)) pe_str (nomark _))))) (pw_or1 (pt_not (pt_chain op_le op_le pe_int (pe_ix ix_list (pv 0) pe_int (fun _ _ => rfl)) (pe_op op_pow pe_int pe_int)))))) (pss_one (ps_ret pe_str)) pss_nil)
    (Evl.pss_cut (ps_if (pt_val (pe_call (ok_law_off T) hr rfl T.m_law_off T.F_law_off.kp T.b_law_off .nil pass0 (pa_cons (pv 0) (pa_cons (pe_ix ix_list (pv 0) pe_int (fun _ _ => rfl)) pa_nil)))) (pss_one (ps_ret pe_str)) pss_nil)
    (Evl.pss_cut (ps_if (pt_val (pe_call (ok_law_late T) hr rfl T.m_law_late T.F_law_late.kp T.b_law_late .nil pass0 (pa_cons (pe_ix ix_list (pv 0) pe_int (fun _ _ => rfl)) pa_nil))) (pss_one (ps_ret pe_str)) pss_nil)
    (Evl.pss_cut (ps_if (pt_cmpR op_gt (pe_callB call_len_seq rfl T.m_len PySem.boot_len (pa_cons (pv 0) pa_nil)) pe_int (nomark _)) (pss_one (ps_ret pe_str)) pss_nil)
    (pss_cons (ps_for PassesOwn.never rfl (pi_range3 rfl T.m_range (pa_cons pe_int (pa_cons (pe_callB call_len_seq rfl T.m_len PySem.boot_len (pa_cons (pv 0) pa_nil)) (pa_cons pe_int pa_nil)))) (pg_name (i := 1) sc_law_due.nd rfl (Or.inl rfl))
      (Evl.pss_cut (ps_if (pt_val (pe_call (ok_law_off T) hr rfl T.m_law_off T.F_law_off.kp T.b_law_off .nil pass0 (pa_cons (pv 0) (pa_cons (pe_ix ix_list (pv 0) (pv 1) (fun _ _ => rfl)) pa_nil)))) (pss_one (ps_ret pe_str)) pss_nil)
      (pss_one (ps_if (PW.pt (pw_or (pt_val (pe_call (ok_law_late T) hr rfl T.m_law_late T.F_law_late.kp T.b_law_late .nil pass0 (pa_cons (pe_ix ix_list (pv 0) (pe_op op_add (pv 1) pe_int) (fun _ _ => rfl)) pa_nil))) (pw_or (pt_val (pe_call (ok_law_late T) hr rfl T.m_law_late T.F_law_late.kp T.b_law_late .nil pass0 (pa_cons (pe_ix ix_list (pv 0) (pe_op op_add (pv 1) pe_int) (fun _ _ => rfl)) pa_nil))) (pw_or (pt_val (pe_call (ok_law_late T) hr rfl T.m_law_late T.F_law_late.kp T.b_law_late .nil pass0 (pa_cons (pe_ix ix_list (pv 0) (pe_op op_add (pv 1) pe_int) (fun _ _ => rfl)) pa_nil))) (pw_or1 (pt_cmpR op_lt (pe_ix ix_list (pv 0) (pe_op op_add (pv 1) pe_int) (fun _ _ => rfl)) (pe_ix ix_list (pv 0) (pe_op op_add (pv 1) pe_int) (fun _ _ => rfl)) (nomark _))))))) (pss_one (ps_ret pe_str)) pss_nil))))
    (pss_one (ps_ret pe_str))))))), ?_⟩
  have hLs : SqL K H l (rawV w' (rawI len home start sts)) := SqL.of hL
  have a0 : atI (rawV w' (rawI len home start sts)) 0 = some (.str w') := raw_0
  have a1 : atI (rawV w' (rawI len home start sts)) 1 = some (.int len) := raw_1
  have a2 : atI (rawV w' (rawI len home start sts)) 2 = some (.int home) := raw_2
  have a3 : atI (rawV w' (rawI len home start sts)) 3 = some (.int start) := raw_3
  have h9 : (10 : Int) ^ (9 : Int).toNat = 1000000000 := by decide +kernel
  have ret : ∀ f, dayFlt w' len home start sts = some f → Q (.str (fltW f)) H := fun f e => by
    rw [e] at q
    exact q
  refine ⟨fun σ' H' => σ' = [some (.ref l), none] ∧ H' = H ∧ isRoad w' len, ?_, ?_⟩
  · have bad : ¬ isRoad w' len → Q (.str "road") H := fun z => ret .road (by unfold dayFlt; rw [if_pos z])
    walk_at "go"
    refine iteB (fun c => ?_) (fun c => ?_)
    · have n1 := nndec c
      walk_at "go"
      refine iteB (fun c => ?_) (fun c => ?_)
      · have n2 := nndec c
        walk_at "go"
        refine bad fun z => ?_
        rcases z.1 with y | y
        · exact n1 (congrArg V.str y)
        · exact n2 (congrArg V.str y)
      · have n2 := V.str.inj (ndec c)
        walk_at "go"
        refine iteB (fun c => ?_) (fun c => ?_)
        · have n3 := odt c
          walk_at "go"
          refine iteB (fun c => ?_) (fun c => ?_)
          · walk_at "go"
            exact bad fun z => nndec c (by rw [h9]; exact z.2.2)
          · have n4 := ndec c
            rw [h9] at n4
            exact ⟨rfl, rfl, Or.inr n2, n3, n4⟩
        · walk_at "go"
          exact bad fun z => odf c z.2.1
    · have n2 := V.str.inj (ndec c)
      walk_at "go"
      refine iteB (fun c => ?_) (fun c => ?_)
      · have n3 := odt c
        walk_at "go"
        refine iteB (fun c => ?_) (fun c => ?_)
        · walk_at "go"
          exact bad fun z => nndec c (by rw [h9]; exact z.2.2)
        · have n4 := ndec c
          rw [h9] at n4
          exact ⟨rfl, rfl, Or.inl n2, n3, n4⟩
      · walk_at "go"
        exact bad fun z => odf c z.2.1
  rintro σ' H' ⟨rfl, rfl, hroad⟩
  have hon := fun p => off_on (w := w') (len := len) (p := p) hroad.1
  refine ⟨fun σ' H'' => σ' = [some (.ref l), none] ∧ H'' = H' ∧ onRoad (decide (w' = "ring")) len home, ?_, ?_⟩
  · walk_at "go"
    refine ⟨l, w', _, home, rfl, hL, len, _, rfl, ?_⟩
    walk_at "go"
    refine iteB (fun c => ?_) (fun c => ?_)
    · walk_at "go"
      refine ret .off ?_
      unfold dayFlt
      rw [if_neg (fun z => z hroad), if_pos (fun z => odt c ((hon home).mpr z))]
    · refine ⟨rfl, rfl, ?_⟩
      by_cases z : onRoad (decide (w' = "ring")) len home
      · exact z
      · exact absurd (fun y => z ((hon home).mp y)) (odf c)
  rintro σ' H'' ⟨rfl, rfl, hhome⟩
  refine ⟨fun σ' H' => σ' = [some (.ref l), none] ∧ H' = H'' ∧ isTime start, ?_, ?_⟩
  · walk_at "go"
    refine iteB (fun c => ?_) (fun c => ?_)
    · walk_at "go"
      refine ret .time ?_
      unfold dayFlt
      rw [if_neg (fun z => z hroad), if_neg (fun z => z hhome), if_pos (odt c)]
    · refine ⟨rfl, rfl, ?_⟩
      by_cases z : isTime start
      · exact z
      · exact absurd z (odf c)
  rintro σ' H' ⟨rfl, rfl, hstart⟩
  have hlen : (rawV w' (rawI len home start sts)).length = 4 + 4 * sts.length := by rw [rawV_len, rawI_len]; omega
  refine ⟨fun σ' H'' => σ' = [some (.ref l), none] ∧ H'' = H' ∧ ¬ 7 < sts.length, ?_, ?_⟩
  · walk_at "go"
    refine iteB (fun c => ?_) (fun c => ?_)
    · have c' := odt c
      walk_at "go"
      refine ret .many ?_
      unfold dayFlt
      rw [if_neg (fun z => z hroad), if_neg (fun z => z hhome), if_neg (fun z => z hstart), if_pos (by omega)]
    · have c' := odf c
      exact ⟨rfl, rfl, by omega⟩
  rintro σ' H'' ⟨rfl, rfl, h7⟩
  have rest : dayFlt w' len home start sts = stopsFlt (decide (w' = "ring")) len sts := by
    unfold dayFlt
    rw [if_neg (fun z => z hroad), if_neg (fun z => z hhome), if_neg (fun z => z hstart), if_neg h7]
  rw [rest] at ret q
  walk_at "go"
  have hlI : (((rawV w' (rawI len home start sts)).length : Nat) : Int) = 4 + 4 * (sts.length : Int) := by rw [hlen]; omega
  refine ⟨4, _, 4, sts.length, rfl, (by rw [hlI]; exact rg4 _ hm), for_rangeC (lo := 4) (c := 4) (n := sts.length) (fun i σ H' => (∃ x, σ = [some (.ref l), x]) ∧ H' = H'' ∧ stopsFlt (decide (w' = "ring")) len sts = stopsFlt (decide (w' = "ring")) len (sts.drop i)) ⟨⟨_, rfl⟩, rfl, rfl⟩ ?_ ?_⟩
  · rintro i σ H' hi ⟨⟨x, rfl⟩, rfl, p⟩
    have hs : sts[i]? = some sts[i] := List.getElem?_eq_getElem hi
    have dr : sts.drop i = sts[i] :: sts.drop (i + 1) := List.drop_eq_getElem_cons hi
    obtain ⟨b0, b1, b2, b3⟩ := raw_at (w := w') (len := len) (home := home) (start := start) hs
    have flt : ∀ f, stopFlt (decide (w' = "ring")) len sts[i] = some f → Q (.str (fltW f)) H' := fun f z => ret f (by
      rw [p, dr]
      show (match stopFlt (decide (w' = "ring")) len sts[i] with | some f => some f | none => stopsFlt (decide (w' = "ring")) len (sts.drop (i + 1))) = _
      rw [z])
    generalize sts[i] = s at hs dr b0 b1 b2 b3 flt
    refine ⟨fun σ' H2 => σ' = [some (.ref l), some (.int (4 + (i : Int) * 4))] ∧ H2 = H' ∧ onRoad (decide (w' = "ring")) len s.1, ?_, ?_⟩
    · walk_at "go"
      refine ⟨l, w', _, s.1, rfl, hL, len, _, rfl, ?_⟩
      walk_at "go"
      refine iteB (fun c => ?_) (fun c => ?_)
      · walk_at "go"
        refine flt .off ?_
        unfold stopFlt
        rw [if_pos (fun z => odt c ((hon s.1).mpr z))]
      · refine ⟨rfl, rfl, ?_⟩
        by_cases z : onRoad (decide (w' = "ring")) len s.1
        · exact z
        · exact absurd (fun y => z ((hon s.1).mp y)) (odf c)
    rintro σ' H2 ⟨rfl, rfl, hp⟩
    have bad : ¬ (isTime s.2.1 ∧ isTime s.2.2.1 ∧ isTime s.2.2.2) → Q (.str "time") H2 := fun z => flt .time (by unfold stopFlt; rw [if_neg (fun y => y hp), if_pos z])
    walk_at "go"
    refine iteB (fun c => ?_) (fun c => ?_)
    · walk_at "go"
      exact bad fun z => odt c z.1
    have t1 : isTime s.2.1 := Decidable.byContradiction fun z => odf c z
    walk_at "go"
    refine iteB (fun c => ?_) (fun c => ?_)
    · walk_at "go"
      exact bad fun z => odt c z.2.1
    have t2 : isTime s.2.2.1 := Decidable.byContradiction fun z => odf c z
    walk_at "go"
    refine iteB (fun c => ?_) (fun c => ?_)
    · walk_at "go"
      exact bad fun z => odt c z.2.2
    have t3 : isTime s.2.2.2 := Decidable.byContradiction fun z => odf c z
    walk_at "go"
    refine iteB (fun c => ?_) (fun c => ?_)
    · walk_at "go"
      refine flt .time ?_
      unfold stopFlt
      rw [if_neg (fun y => y hp), if_neg (fun y => y ⟨t1, t2, t3⟩), if_pos (odt c)]
    · refine ⟨⟨_, rfl⟩, rfl, ?_⟩
      rw [p, dr]
      show (match stopFlt (decide (w' = "ring")) len s with | some f => some f | none => stopsFlt (decide (w' = "ring")) len (sts.drop (i + 1))) = _
      have e : stopFlt (decide (w' = "ring")) len s = none := by
        unfold stopFlt
        rw [if_neg (fun y => y hp), if_neg (fun y => y ⟨t1, t2, t3⟩), if_neg (odf c)]
      rw [e]
  · rintro σ H' ⟨⟨x, rfl⟩, rfl, p⟩
    have e : stopsFlt (decide (w' = "ring")) len sts = none := by
      rw [p, List.drop_length]
      rfl
    rw [e] at q
    walk_at "go"
    exact q
/-! #### check_day -/
def sp_check_day (K : PySem.W.Frag) : Sp := fun vs H Q E => ∃ (r l : Addr) (w : Str) (len home start : Int) (ps : List Addr) (sts : List Stp) (_u : Unit), vs = [.ref r, .int home, .int start, .ref l] ∧ SqT K H r [.str w, .int len] ∧ SqL K H l (ps.map V.ref) ∧ StopsR K H ps sts ∧
  (dayFlt w len home start sts = none → ∀ H', Ex H H' → Q .non H') ∧ (∀ f, dayFlt w len home start sts = some f → ∀ H', Ex H H' → E (.ref (fltC K f)) none H')
set_option maxHeartbeats 4000000 in
theorem ok_check_day (T : Txt K mg D) : FnOk P w K mg base (L2.CX P w) 3 (He.ga K "check_day") (D "check_day") ["road", "home", "start", "stops"] (sp_check_day K) := by
  refine T.F_check_day.ok sc_check_day (fun vs H Q E h => ?_) (fun cdv A outer s H vs Q E hr h => ?_)
  · obtain ⟨_, _, _, _, _, _, _, _, _, rfl, _⟩ := h
    rfl
  obtain ⟨r, l, w', len, home, start, ps, sts, _, rfl, hR, hL, hP, q1, q2⟩ := h
  refine ⟨_, (pss_cons (ps_if (pt_not (pt_val (pe_call (ok_is_road T) (hr.mono (by decide)) rfl T.m_is_road T.F_is_road.kp T.b_is_road .nil pass0 (pa_cons (pv 0) pa_nil)))) (pss_one (ps_raise rfl (takes_of rfl rfl rfl rfl) (pmk_own PySem.F.excBase_ValueError T.x_BadRoad T.m_BadRoad T.kp_BadRoad (raises_own T.sb_BadRoad T.ty_BadRoad) (by exact rfl)))) pss_nil)
    (pss_cons (ps_if (pt_not (pt_val (pe_call (ok_has_place T) (hr.mono (by decide)) rfl T.m_has_place T.F_has_place.kp T.b_has_place .nil pass0 (pa_cons (pv 0) (pa_cons (pv 1) pa_nil))))) (pss_one (ps_raise rfl (takes_of rfl rfl rfl rfl) (pmk_own PySem.F.excBase_ValueError T.x_OffRoad T.m_OffRoad T.kp_OffRoad (raises_own T.sb_OffRoad T.ty_OffRoad) (by exact rfl)))) pss_nil)
    (pss_cons (ps_if (pt_not (pt_val (pe_call (ok_is_time T) (hr.mono (by decide)) rfl T.m_is_time T.F_is_time.kp T.b_is_time .nil pass0 (pa_cons (pv 2) pa_nil)))) (pss_one (ps_raise rfl (takes_of rfl rfl rfl rfl) (pmk_own PySem.F.excBase_ValueError T.x_BadTime T.m_BadTime T.kp_BadTime (raises_own T.sb_BadTime T.ty_BadTime) (by exact rfl)))) pss_nil)
    (pss_cons (ps_if (pt_cmpR op_gt (pe_callB call_len_seq rfl T.m_len PySem.boot_len (pa_cons (pv 3) pa_nil)) (pe_globE rfl T.c_MOST_STOPS) (nomark _)) (pss_one (ps_raise rfl (takes_of rfl rfl rfl rfl) (pmk_own PySem.F.excBase_ValueError T.x_TooMany T.m_TooMany T.kp_TooMany (raises_own T.sb_TooMany T.ty_TooMany) (by exact rfl)))) pss_nil)
    (pss_one (ps_for (passes_of rfl) rfl (pi_list (pv 3)) (pg_name (i := 4) sc_check_day.nd rfl (Or.inl rfl))
      (pss_one (ps_expr (pe_call (ok_check_stop T) hr rfl T.m_check_stop T.F_check_stop.kp T.b_check_stop .nil (passes_call (E := E) (takes_of rfl rfl rfl rfl) (fun _ _ _ _ h => h)) (pa_cons (pv 0) (pa_cons (pv 4) pa_nil))))))))))), ?_⟩
  have fault : ∀ f, dayFlt w' len home start sts = some f → ∀ H', Ex H H' → E (.ref (fltC K f)) none H' := q2
  walk_at "go"
  refine ⟨r, w', len, rfl, hR, fun H1 e1 => ?_⟩
  walk_at "go"
  refine iteB (fun c => ?_) (fun c => ?_)
  · refine fault .road ?_ H1 e1
    unfold dayFlt
    rw [if_pos]
    intro z
    rw [decide_eq_true z] at c
    exact absurd c (by decide)
  have c1 : isRoad w' len := by
    by_cases z : isRoad w' len
    · exact z
    · rw [decide_eq_false z] at c; exact absurd c (by decide)
  obtain ⟨hw, hl⟩ := isRoad_word c1
  have hR1 : SqT K H1 r (roadV (decide (w' = "ring")) len) := by
    have e : roadV (decide (w' = "ring")) len = [V.str w', V.int len] := by unfold roadV; rw [← hw]
    rw [e]
    exact Evl.ex_t e1 hR
  walk_at "go"
  refine ⟨r, _, len, home, rfl, hR1, ?_⟩
  walk_at "go"
  refine iteB (fun c => ?_) (fun c => ?_)
  · refine fault .off ?_ H1 e1
    unfold dayFlt
    rw [if_neg (fun z => z c1), if_pos]
    intro z
    rw [decide_eq_true (show 0 ≤ home ∧ home < placesOf (decide (w' = "ring")) len from z)] at c
    exact absurd c (by decide)
  have c2 : onRoad (decide (w' = "ring")) len home := by
    by_cases z : onRoad (decide (w' = "ring")) len home
    · exact z
    · rw [decide_eq_false (show ¬ (0 ≤ home ∧ home < placesOf (decide (w' = "ring")) len) from z)] at c; exact absurd c (by decide)
  walk_at "go"
  refine iteB (fun c => ?_) (fun c => ?_)
  · refine fault .time ?_ H1 e1
    unfold dayFlt
    rw [if_neg (fun z => z c1), if_neg (fun z => z c2), if_pos]
    intro z
    rw [decide_eq_true z] at c
    exact absurd c (by decide)
  have c3 : isTime start := by
    by_cases z : isTime start
    · exact z
    · rw [decide_eq_false z] at c; exact absurd c (by decide)
  walk_at "go"
  refine ⟨l, _, rfl, Or.inl (Evl.ex_l e1 hL), ?_⟩
  walk_at "go"
  have hlen : (ps.map V.ref).length = sts.length := by rw [List.length_map]; exact hP.len
  refine iteB (fun c => ?_) (fun c => ?_)
  · refine fault .many ?_ H1 e1
    have c' := of_decide_eq_true c
    unfold dayFlt
    rw [if_neg (fun z => z c1), if_neg (fun z => z c2), if_neg (fun z => z c3), if_pos (by omega)]
  have c4 : ¬ 7 < sts.length := by
    have c' := of_decide_eq_false c
    omega
  have rest : dayFlt w' len home start sts = stopsFlt (decide (w' = "ring")) len sts := by
    unfold dayFlt
    rw [if_neg (fun z => z c1), if_neg (fun z => z c2), if_neg (fun z => z c3), if_neg c4]
  rw [rest] at q1 fault
  walk_at "go"
  refine ⟨⟨_, Evl.ex_l e1 hL⟩, for_list (K := K) (a := l) (xs := ps.map V.ref) (fun i σ H' => (∃ x, σ = [some (.ref r), some (.int home), some (.int start), some (.ref l), x]) ∧ H' = H1 ∧ stopsFlt (decide (w' = "ring")) len sts = stopsFlt (decide (w' = "ring")) len (sts.drop i)) ⟨⟨_, rfl⟩, rfl, rfl⟩ (fun i σ H' _ p => by rw [p.2.1]; exact Evl.ex_l e1 hL) ?_ ?_⟩
  · rintro i y σ H' hi ⟨⟨x, rfl⟩, rfl, p⟩
    obtain ⟨a, ha, rfl⟩ := map_ref_get hi
    obtain ⟨st, hst, hS⟩ := (hP.ex e1).get ha
    have dr : sts.drop i = st :: sts.drop (i + 1) := by
      obtain ⟨h1, h2⟩ := List.getElem?_eq_some_iff.mp hst
      rw [List.drop_eq_getElem_cons h1, h2]
    walk_at "go"
    refine ⟨r, a, _, len, st, rfl, hR1, hS, fun z => ?_, fun f z => ?_⟩
    · refine ⟨⟨_, rfl⟩, rfl, ?_⟩
      rw [p, dr]
      show (match stopFlt (decide (w' = "ring")) len st with | some f => some f | none => stopsFlt (decide (w' = "ring")) len (sts.drop (i + 1))) = _
      rw [z]
    · refine fault f ?_ _ e1
      rw [p, dr]
      show (match stopFlt (decide (w' = "ring")) len st with | some f => some f | none => stopsFlt (decide (w' = "ring")) len (sts.drop (i + 1))) = _
      rw [z]
  · rintro σ H' ⟨_, rfl, p⟩
    refine q1 ?_ _ e1
    rw [p, hlen, List.drop_length]
    rfl
/-! #### _law_stop_by -/
def sp_law_stop_by (K : PySem.W.Frag) : Sp := fun vs H Q _ => ∃ (r a : Addr) (ring : Bool) (len start k : Int) (ns : List Int), vs = [.ref r, .int start, .ref a, .int k] ∧ SqT K H r (roadV ring len) ∧ 1 ≤ len ∧ len ≤ 1000000000 ∧ 0 ≤ start ∧ start ≤ 1000000000000 ∧ SqL K H a (ns.map V.int) ∧ ns.length ≤ 63 ∧
  ∀ s p H', goodStop ring len s → Ex H H' → H p = none → H' p = some (.tup (stopV s)) → Q (.ref p) H'
set_option maxHeartbeats 4000000 in
theorem ok_law_stop_by (T : Txt K mg D) : FnOk P w K mg base CX0 3 (He.ga K "_law_stop_by") (D "_law_stop_by") ["_law_road", "_law_start", "_law_script", "_law_k"] (sp_law_stop_by K) := by
  refine T.F_law_stop_by.ok sc_law_stop_by (fun vs H Q E h => ?_) (fun cdv A outer s H vs Q E hr h => ?_)
  · obtain ⟨_, _, _, _, _, _, _, rfl, _⟩ := h
    rfl
  obtain ⟨r, a, ring, len, start, k, ns, rfl, hR, l1, l2, s0, s1, hS, hn, q⟩ := h
  refine ⟨_, PSs.nox (pss_cons (ps_set (i := 4) sc_law_stop_by.nd rfl (Or.inl rfl) (pe_call (ok_law_place_by T) hr rfl T.m_law_place_by T.F_law_place_by.kp T.b_law_place_by .nil pass0 (pa_cons (pv 0) (pa_cons (pe_call (ok_law_cell_at T) (hr.mono (by decide)) rfl T.m_law_cell_at T.F_law_cell_at.kp T.b_law_cell_at .nil pass0 (pa_cons (pv 2) (pa_cons (pv 3) pa_nil))) pa_nil))))
    (pss_cons (ps_set (i := 5) sc_law_stop_by.nd rfl (Or.inl rfl) (pe_call (ok_law_cell_at T) (hr.mono (by decide)) rfl T.m_law_cell_at T.F_law_cell_at.kp T.b_law_cell_at .nil pass0 (pa_cons (pv 2) (pa_cons (pe_op op_add (pv 3) pe_int) pa_nil))))
    (pss_cons (ps_set (i := 6) sc_law_stop_by.nd rfl (Or.inl rfl) (pe_op op_add (pv 1) (pe_op op_mod (pe_op op_fdiv (pv 5) pe_int) (pe_op op_add (pe_op op_mul pe_int (pe_ix ix_tup (pv 0) pe_int (fun _ _ => rfl))) pe_int))))
    (Evl.pss_cut (ps_if (pt_cmpR op_eq (pe_op op_mod (pv 5) pe_int) pe_int (nomark _)) (pss_one (ps_set (i := 6) sc_law_stop_by.nd rfl (Or.inl rfl) pe_int)) pss_nil)
    (Evl.pss_cut (ps_if (pt_cmpR op_eq (pe_op op_mod (pv 5) pe_int) pe_int (nomark _)) (pss_one (ps_set (i := 6) sc_law_stop_by.nd rfl (Or.inl rfl) (pe_callB (call_max2 rfl) rfl T.m_max (by decide +kernel) (pa_cons pe_int (pa_cons (pe_op op_sub (pv 1) (pe_op op_mod (pe_op op_fdiv (pv 5) pe_int) (pe_op op_add (pe_ix ix_tup (pv 0) pe_int (fun _ _ => rfl)) pe_int))) pa_nil))))) pss_nil)
    (Evl.pss_cut (ps_if (pt_cmpR op_eq (pe_op op_mod (pv 5) pe_int) pe_int (nomark _)) (pss_one (ps_set (i := 6) sc_law_stop_by.nd rfl (Or.inl rfl) (pe_op op_add (pv 1) (pe_call (ok_law_wide T) (hr.mono (by decide)) rfl T.m_law_wide T.F_law_wide.kp T.b_law_wide .nil pass0 (pa_cons (pe_op op_fdiv (pv 5) pe_int) (pa_cons (pe_ix ix_list (pe_lst (pa_cons (pe_op op_pow pe_int pe_int) (pa_cons (pe_op op_pow pe_int pe_int) pa_nil))) (pe_op op_mod (pe_op op_fdiv (pv 5) pe_int) pe_int) (fun _ _ => rfl)) pa_nil)))))) pss_nil)
    (pss_cons (ps_set (i := 6) sc_law_stop_by.nd rfl (Or.inl rfl) (pe_callB (call_min2 rfl) rfl T.m_min (by decide +kernel) (pa_cons (pv 6) (pa_cons (pe_op op_pow pe_int pe_int) pa_nil))))
    (pss_cons (ps_set (i := 5) sc_law_stop_by.nd rfl (Or.inl rfl) (pe_call (ok_law_cell_at T) (hr.mono (by decide)) rfl T.m_law_cell_at T.F_law_cell_at.kp T.b_law_cell_at .nil pass0 (pa_cons (pv 2) (pa_cons (pe_op op_add (pv 3) pe_int) pa_nil))))
    (pss_cons (ps_set (i := 7) sc_law_stop_by.nd rfl (Or.inl rfl) (pe_op op_add (pe_op op_add (pe_callB (call_max2 rfl) rfl T.m_max (by decide +kernel) (pa_cons (pv 6) (pa_cons (pv 1) pa_nil))) (pe_op op_mul (pe_ix ix_list (pe_lst (pa_cons pe_int (pa_cons pe_int (pa_cons pe_int (pa_cons pe_int pa_nil))))) (pe_op op_mod (pv 5) pe_int) (fun _ _ => rfl)) (pe_ix ix_tup (pv 0) pe_int (fun _ _ => rfl)))) (pe_op op_mod (pe_op op_fdiv (pv 5) pe_int) (pe_op op_add (pe_ix ix_tup (pv 0) pe_int (fun _ _ => rfl)) pe_int))))
    (Evl.pss_cut (ps_if (pt_cmpR op_eq (pe_op op_mod (pv 5) pe_int) pe_int (nomark _)) (pss_one (ps_set (i := 7) sc_law_stop_by.nd rfl (Or.inl rfl) (pv 6))) pss_nil)
    (Evl.pss_cut (ps_if (pt_cmpR op_eq (pe_op op_mod (pv 5) pe_int) pe_int (nomark _)) (pss_one (ps_set (i := 7) sc_law_stop_by.nd rfl (Or.inl rfl) (pe_ix ix_list (pe_lst (pa_cons (pe_op op_pow pe_int pe_int) (pa_cons (pe_op op_add (pe_callB (call_max2 rfl) rfl T.m_max (by decide +kernel) (pa_cons (pv 6) (pa_cons (pv 1) pa_nil))) (pe_call (ok_law_wide T) (hr.mono (by decide)) rfl T.m_law_wide T.F_law_wide.kp T.b_law_wide .nil pass0 (pa_cons (pe_op op_fdiv (pv 5) pe_int) (pa_cons (pe_op op_pow pe_int pe_int) pa_nil)))) pa_nil))) (pe_op op_mod (pe_op op_fdiv (pv 5) pe_int) pe_int) (fun _ _ => rfl)))) pss_nil)
    (pss_cons (ps_set (i := 7) sc_law_stop_by.nd rfl (Or.inl rfl) (pe_callB (call_min2 rfl) rfl T.m_min (by decide +kernel) (pa_cons (pv 7) (pa_cons (pe_op op_pow pe_int pe_int) pa_nil))))
    (pss_cons (ps_set (i := 5) sc_law_stop_by.nd rfl (Or.inl rfl) (pe_call (ok_law_cell_at T) (hr.mono (by decide)) rfl T.m_law_cell_at T.F_law_cell_at.kp T.b_law_cell_at .nil pass0 (pa_cons (pv 2) (pa_cons (pe_op op_add (pv 3) pe_int) pa_nil))))
    (pss_cons (ps_set (i := 8) sc_law_stop_by.nd rfl (Or.inl rfl) (pe_op op_mod (pe_op op_fdiv (pv 5) pe_int) (pe_op op_add (pe_op op_fdiv (pe_ix ix_tup (pv 0) pe_int (fun _ _ => rfl)) pe_int) pe_int)))
    (Evl.pss_cut (ps_if (pt_cmpR op_eq (pe_op op_mod (pv 5) pe_int) pe_int (nomark _)) (pss_one (ps_set (i := 8) sc_law_stop_by.nd rfl (Or.inl rfl) pe_int)) pss_nil)
    (Evl.pss_cut (ps_if (pt_cmpR op_eq (pe_op op_mod (pv 5) pe_int) pe_int (nomark _)) (pss_one (ps_set (i := 8) sc_law_stop_by.nd rfl (Or.inl rfl) (pe_call (ok_law_wide T) (hr.mono (by decide)) rfl T.m_law_wide T.F_law_wide.kp T.b_law_wide .nil pass0 (pa_cons (pe_op op_fdiv (pv 5) pe_int) (pa_cons (pe_op op_add (pe_op op_pow pe_int pe_int) pe_int) pa_nil))))) pss_nil)
    (pss_one (ps_ret (pe_tup (pa_cons (pv 4) (pa_cons (pv 6) (pa_cons (pv 7) (pa_cons (pv 8) pa_nil))))))))))))))))))))))), ?_⟩
  have h12 : (10 : Int) ^ (12 : Int).toNat = 1000000000000 := by decide +kernel
  have h9 : (10 : Int) ^ (9 : Int).toNat = 1000000000 := by decide +kernel
  walk_at "go"
  refine ⟨a, ns, k, rfl, hS, hn, fun c0 => ?_⟩
  walk_at "go"
  refine ⟨r, ring, len, c0, rfl, hR, l1, fun pl H1 p0 p1 e1 => ?_⟩
  walk_at "go"
  refine ⟨a, ns, k + 1, rfl, Evl.ex_l e1 hS, hn, fun c1 => ?_⟩
  have hR1 : SqT K H1 r (roadV ring len) := Evl.ex_t e1 hR
  have hS1 : SqL K H1 a (ns.map V.int) := Evl.ex_l e1 hS
  walk_at "go"
  have m1 := Int.emod_nonneg (c1 / 4) (show 3 * len + 2 ≠ 0 by omega)
  have m2 := Int.emod_nonneg (c1 / 4) (show len + 1 ≠ 0 by omega)
  refine ⟨fun σ' H' => ∃ o, 0 ≤ o ∧ σ' = [some (V.ref r), some (V.int start), some (V.ref a), some (V.int k), some (V.int pl), some (V.int c1), some (V.int o), none, none] ∧ H' = H1, ?_, ?_⟩
  · walk_at "go"
    refine iteB (fun b => ?_) (fun b => ?_)
    · exact ⟨0, by decide, rfl, rfl⟩
    · exact ⟨_, by omega, rfl, rfl⟩
  rintro σ' H2 ⟨o, o0, rfl, rfl⟩
  refine ⟨fun σ' H' => ∃ o, 0 ≤ o ∧ σ' = [some (V.ref r), some (V.int start), some (V.ref a), some (V.int k), some (V.int pl), some (V.int c1), some (V.int o), none, none] ∧ H' = H2, ?_, ?_⟩
  · walk_at "go"
    refine iteB (fun b => ?_) (fun b => ?_)
    · walk_at "go"
      refine ⟨_, ?_, rfl, rfl⟩
      split <;> omega
    · exact ⟨o, o0, rfl, rfl⟩
  rintro σ' H3 ⟨o, o0, rfl, rfl⟩
  refine ⟨fun σ' H' => ∃ o, 0 ≤ o ∧ σ' = [some (V.ref r), some (V.int start), some (V.ref a), some (V.int k), some (V.int pl), some (V.int c1), some (V.int o), none, none] ∧ Ex H H', ?_, ?_⟩
  · walk_at "go"
    refine iteB (fun b => ?_) (fun b => ?_)
    · walk_at "go"
      intro p hp
      walk_at "go"
      obtain ⟨v, hv, hv2⟩ := at2 (a := 10 ^ (9 : Int).toNat) (b := 10 ^ (12 : Int).toNat) (i := c1 / 16 % 2) (by omega) (by omega)
      refine ⟨p, _, _, _, rfl, rfl, SqL.of upd_same, hv, ?_⟩
      walk_at "go"
      intro z z0 z1
      walk_at "go"
      exact ⟨_, by omega, rfl, e1.trans (Evl.Ex.new hp)⟩
    · exact ⟨o, o0, rfl, e1⟩
  rintro σ' H4 ⟨o, o0, rfl, e4⟩
  have hR4 : SqT K H4 r (roadV ring len) := Evl.ex_t e4 hR
  walk_at "go"
  have ob : ∃ o', (if 10 ^ (12 : Int).toNat < o then 10 ^ (12 : Int).toNat else o) = o' ∧ 0 ≤ o' ∧ o' ≤ 1000000000000 := ⟨_, rfl, by split <;> omega, by split <;> omega⟩
  obtain ⟨o', oe, o0', o1'⟩ := ob
  rw [oe]
  refine ⟨a, ns, k + 2, rfl, Evl.ex_l e4 hS, hn, fun c2 => ?_⟩
  walk_at "go"
  intro p hp
  walk_at "go"
  obtain ⟨v, hv, hv2⟩ := at4 (a := 0) (b := 3) (c := 9) (d := 20) (i := c2 % 4) (by omega) (by omega)
  refine ⟨p, _, _, _, rfl, rfl, SqL.of upd_same, hv, ?_⟩
  have e5 : Ex H (upd H4 p (.lst [V.int 0, V.int 3, V.int 9, V.int 20])) := e4.trans (Evl.Ex.new hp)
  have hR5 : SqT K (upd H4 p (.lst [V.int 0, V.int 3, V.int 9, V.int 20])) r (roadV ring len) := Evl.ex_t e5 hR
  walk_at "go"
  refine And.intro (show CMul v len from Or.inl ⟨by omega, by omega⟩) ?_
  walk_at "go"
  have hv0 : 0 ≤ v * len := by rcases hv2 with rfl | rfl | rfl | rfl <;> omega
  have m3 := Int.emod_nonneg (c2 / 4) (show len + 2 ≠ 0 by omega)
  refine ⟨fun σ' H' => ∃ c, o' ≤ c ∧ σ' = [some (V.ref r), some (V.int start), some (V.ref a), some (V.int k), some (V.int pl), some (V.int c2), some (V.int o'), some (V.int c), none] ∧ Ex H H', ?_, ?_⟩
  · walk_at "go"
    refine iteB (fun b => ?_) (fun b => ?_)
    · walk_at "go"
      exact ⟨o', Int.le_refl _, rfl, e5⟩
    · refine ⟨_, ?_, rfl, e5⟩
      show o' ≤ (if start > o' then start else o') + v * len + c2 / 4 % (len + 2)
      split <;> omega
  rintro σ' H5 ⟨c, hc, rfl, e6⟩
  refine ⟨fun σ' H' => ∃ c, o' ≤ c ∧ σ' = [some (V.ref r), some (V.int start), some (V.ref a), some (V.int k), some (V.int pl), some (V.int c2), some (V.int o'), some (V.int c), none] ∧ Ex H H', ?_, ?_⟩
  · walk_at "go"
    refine iteB (fun b => ?_) (fun b => ?_)
    · walk_at "go"
      intro z z0 z1
      walk_at "go"
      intro p2 hp2
      walk_at "go"
      obtain ⟨y, hy, hy2⟩ := at2 (a := 10 ^ (12 : Int).toNat) (b := (if start > o' then start else o') + z) (i := c2 / 9 % 2) (by omega) (by omega)
      refine ⟨p2, _, _, _, rfl, rfl, SqL.of upd_same, hy, ?_⟩
      refine ⟨y, ?_, rfl, e6.trans (Evl.Ex.new hp2)⟩
      rcases hy2 with rfl | rfl
      · omega
      · split <;> omega
    · exact ⟨c, hc, rfl, e6⟩
  rintro σ' H6 ⟨c, hc, rfl, e7⟩
  walk_at "go"
  have cb : ∃ c', (if 10 ^ (12 : Int).toNat < c then 10 ^ (12 : Int).toNat else c) = c' ∧ o' ≤ c' ∧ c' ≤ 1000000000000 := ⟨_, rfl, by split <;> omega, by split <;> omega⟩
  obtain ⟨c', ce, c0', c1'⟩ := cb
  rw [ce]
  refine ⟨a, ns, k + 3, rfl, Evl.ex_l e7 hS, hn, fun c3 => ?_⟩
  have hR7 : SqT K H6 r (roadV ring len) := Evl.ex_t e7 hR
  walk_at "go"
  have m4 := Int.emod_nonneg (c3 / 3) (show len / 3 + 2 ≠ 0 by omega)
  have m5 := Int.emod_lt_of_pos (c3 / 3) (show 0 < len / 3 + 2 by omega)
  refine ⟨fun σ' H' => ∃ y, 0 ≤ y ∧ y ≤ 1000000000000 ∧ σ' = [some (V.ref r), some (V.int start), some (V.ref a), some (V.int k), some (V.int pl), some (V.int c3), some (V.int o'), some (V.int c'), some (V.int y)] ∧ H' = H6, ?_, ?_⟩
  · walk_at "go"
    refine iteB (fun b => ?_) (fun b => ?_)
    · exact ⟨0, by decide, by decide, rfl, rfl⟩
    · exact ⟨_, by omega, by omega, rfl, rfl⟩
  rintro σ' H7 ⟨y, y0, y1, rfl, rfl⟩
  refine ⟨fun σ' H' => ∃ y, 0 ≤ y ∧ y ≤ 1000000000000 ∧ σ' = [some (V.ref r), some (V.int start), some (V.ref a), some (V.int k), some (V.int pl), some (V.int c3), some (V.int o'), some (V.int c'), some (V.int y)] ∧ H' = H7, ?_, ?_⟩
  · walk_at "go"
    refine iteB (fun b => ?_) (fun b => ?_)
    · walk_at "go"
      intro z z0 z1
      exact ⟨z, z0, by rw [h12] at z1; omega, rfl, rfl⟩
    · exact ⟨y, y0, y1, rfl, rfl⟩
  rintro σ' H8 ⟨y, y0, y1, rfl, rfl⟩
  walk_at "go"
  intro q8 hq8
  exact q (pl, o', c', y) q8 _ ⟨⟨p0, p1⟩, o0', c0', c1', y0, y1⟩ (e7.trans (Evl.Ex.new hq8)) (Evl.fresh_back e7 hq8) upd_same
/-! #### Day.__init__ -/
def sp_Day___init (K : PySem.W.Frag) : Sp := fun vs H Q E => ∃ (p dx r l : Addr) (w : Str) (len home start : Int) (ps : List Addr) (sts : List Stp) (_u : Unit), vs = [.ref p, .ref r, .int home, .int start, .ref l] ∧ H p = some (.ins (He.ga K "Day") dx []) ∧ SqT K H r [.str w, .int len] ∧ SqL K H l (ps.map V.ref) ∧ StopsR K H ps sts ∧
  (dayFlt w len home start sts = none → ∀ l' H', (∀ b o, b ≠ p → H b = some o → H' b = some o) → H l' = none → H' p = some (.ins (He.ga K "Day") dx (dayFs r l' home start)) → H' l' = some (.lst (ps.map V.ref)) → Q .non H') ∧
  (∀ f, dayFlt w len home start sts = some f → ∀ H', Ex H H' → E (.ref (fltC K f)) none H')
set_option maxHeartbeats 4000000 in
theorem ok_Day___init (T : Txt K mg D) : FnOk P w K mg base (L2.CX P w) 4 (He.ma K (He.ga K "Day") "__init__") (D "Day.__init__") ["self", "road", "home", "start", "stops"] (sp_Day___init K) := by
  refine T.F_Day___init.ok sc_Day___init (fun vs H Q E h => ?_) (fun cdv A outer s H vs Q E hr h => ?_)
  · obtain ⟨_, _, _, _, _, _, _, _, _, _, _, rfl, _⟩ := h
    rfl
  obtain ⟨p, dx, r, l, w', len, home, start, ps, sts, _, rfl, hp, hR, hL, hP, q1, q2⟩ := h
  refine ⟨_, (pss_cons (ps_expr (pe_call (ok_check_day T) hr rfl T.m_check_day T.F_check_day.kp T.b_check_day .nil (passes_call (E := E) (takes_of rfl rfl rfl rfl) (fun _ _ _ _ h => h)) (pa_cons (pv 1) (pa_cons (pv 2) (pa_cons (pv 3) (pa_cons (pv 4) pa_nil))))))
    (pss_cons (ps_fld (pv 0) (pv 1) rfl)
    (pss_cons (ps_fld (pv 0) (pv 2) rfl)
    (pss_cons (ps_fld (pv 0) (pv 3) rfl)
    (pss_one (ps_fld (pv 0) (pe_callTy call_list_of rfl T.m_list (by decide +kernel) (pa_cons (pv 4) pa_nil)) rfl)))))), ?_⟩
  walk_at "go"
  refine ⟨r, l, w', len, home, start, ps, sts, (), rfl, hR, hL, hP, fun z H1 e1 => ?_, q2⟩
  walk_at "go"
  refine ⟨p, _, dx, _, rfl, e1 _ _ hp, T.cl_Day, T.na_Day_road, (by decide), ?_⟩
  walk_at "go"
  refine ⟨p, _, dx, _, rfl, upd_same, T.cl_Day, T.na_Day_home, (by show 1 < 1000; decide), ?_⟩
  walk_at "go"
  refine ⟨p, _, dx, _, rfl, upd_same, T.cl_Day, T.na_Day_start, (by show 2 < 1000; decide), ?_⟩
  walk_at "go"
  refine ⟨l, _, rfl, Or.inl (SqL.at_ins upd_same (SqL.at_ins upd_same (SqL.at_ins (e1 _ _ hp) (Evl.ex_l e1 hL)))), fun l' hl' => ?_⟩
  walk_at "go"
  have nep : p ≠ l' := fun e => by rw [e, upd_same] at hl'; cases hl'
  refine ⟨p, _, dx, _, rfl, (by rw [upd_ne nep]; exact upd_same), T.cl_Day, T.na_Day_stops, (by show 3 < 1000; decide), ?_⟩
  have fr : H l' = none := by
    have h1 : H1 l' = none := by
      have h2 := hl'
      rw [upd_ne (Ne.symm nep), upd_ne (Ne.symm nep), upd_ne (Ne.symm nep)] at h2
      exact h2
    exact Evl.fresh_back e1 h1
  refine q1 z l' _ (fun b o hb ho => ?_) fr upd_same ?_
  · have hbl : b ≠ l' := fun e => by rw [e, fr] at ho; cases ho
    rw [upd_ne hb, upd_ne hbl, upd_ne hb, upd_ne hb, upd_ne hb]
    exact e1 _ _ ho
  · rw [upd_ne (Ne.symm nep)]
    exact upd_same
/-! #### _law_stops_by -/
def sp_law_stops_by (K : PySem.W.Frag) : Sp := fun vs H Q _ => ∃ (r a : Addr) (ring : Bool) (len start many : Int) (ns : List Int), vs = [.ref r, .int start, .ref a, .int many] ∧ SqT K H r (roadV ring len) ∧ 1 ≤ len ∧ len ≤ 1000000000 ∧ 0 ≤ start ∧ start ≤ 1000000000000 ∧ SqL K H a (ns.map V.int) ∧ ns.length ≤ 63 ∧ 0 ≤ many ∧ many ≤ 1000 ∧
  ∀ sts ps l H', sts.length = many.toNat → (∀ s ∈ sts, goodStop ring len s) → Ex H H' → H l = none → H' l = some (.lst (ps.map V.ref)) → StopsR K H' ps sts → Q (.ref l) H'
set_option maxHeartbeats 4000000 in
theorem ok_law_stops_by (T : Txt K mg D) : FnOk P w K mg base CX0 4 (He.ga K "_law_stops_by") (D "_law_stops_by") ["_law_road", "_law_start", "_law_script", "_law_many"] (sp_law_stops_by K) := by
  refine T.F_law_stops_by.ok sc_law_stops_by (fun vs H Q E h => ?_) (fun cdv A outer s H vs Q E hr h => ?_)
  · obtain ⟨_, _, _, _, _, _, _, rfl, _⟩ := h
    rfl
  obtain ⟨r, a, ring, len, start, many, ns, rfl, hR, l1, l2, s0, s1, hS, hn, m0, m1, q⟩ := h
  refine ⟨_, PSs.nox (pss_one (ps_ret (pe_lc (own := [("_law_k", 4)]) (g := gName 4) (tt := tYes) rfl sc_law_stops_by.nd (pi_range1 rfl T.m_range (pa_cons (pv 3) pa_nil)) (blkOk_by (own := [("_law_k", 4)]) (N := N_law_stops_by) (sc := defScope s_law_stops_by) (by decide +kernel)) (fun _ _ _ _ _ => pg_name (i := 4) sc_law_stops_by.nd rfl (Or.inl rfl)) (fun _ _ _ _ _ => pts_nil) (fun _ _ _ _ _ => (by refine' pe_eq (t' := ?tt) (pe_call (ok_law_stop_by T) hr rfl T.m_law_stop_by T.F_law_stop_by.kp T.b_law_stop_by .nil pass0 (pa_cons (pv 0) (pa_cons (pv 1) (pa_cons (pv 2) (pa_cons (pe_op op_add pe_int (pe_op op_mul pe_int (pv 4))) pa_nil))))) ?qq; case qq => (first | (dsimp only [L2.Cx.blk]; done) | (dsimp only [L2.Cx.blk]; rfl) | rfl)))))), ?_⟩
  walk_at "go"
  intro D hD
  refine lc_range (lo := 0) (n := many.toNat) (fun i H' => ∃ sts ps, sts.length = i ∧ (∀ s ∈ sts, goodStop ring len s) ∧ Ex H H' ∧ H' D = some (.lst (ps.map V.ref)) ∧ StopsR K H' ps sts) ⟨[], [], rfl, (by simp), Evl.Ex.new hD, upd_same, .nil⟩ ?_ ?_
  · rintro i H' hi ⟨sts, ps, hlen, hg, e, hd, hP⟩
    walk_at "go"
    refine ⟨r, a, ring, len, start, _, ns, rfl, Evl.ex_t e hR, l1, l2, s0, s1, Evl.ex_l e hS, hn, fun s p H2 gs e2 hp hp2 => ⟨ps.map V.ref, e2 _ _ hd, ?_, sts ++ [s], ps ++ [p], ?_, ?_, ?_, ?_, ?_⟩⟩
    · rw [List.length_map, hP.len, hlen]
      exact Evl.sz_lt (by omega)
    · rw [List.length_append, hlen]
      rfl
    · intro z hz
      rcases List.mem_append.mp hz with hz | hz
      · exact hg z hz
      · rw [List.mem_singleton.mp hz]
        exact gs
    · exact Evl.Ex.mut (e.trans e2) hD
    · rw [upd_same, List.map_append]
      rfl
    · exact StopsR.at_lst (e2 _ _ hd) (StopsR.snoc (SqT.of hp2) (hP.ex e2))
  · rintro H' ⟨sts, ps, hlen, hg, e, hd, hP⟩
    exact q sts ps D H' hlen hg e hD hd hP
/-! #### _law_raw_by -/
def sp_law_raw_by (K : PySem.W.Frag) : Sp := fun vs H Q _ => ∃ (a : Addr) (ns : List Int), vs = [.ref a] ∧ SqL K H a (ns.map V.int) ∧ ns.length ≤ 63 ∧ ∀ w is m l H', is.length = 3 + 4 * m → m < 28 → Ex H H' → H l = none → H' l = some (.lst (rawV w is)) → Q (.ref l) H'
set_option maxHeartbeats 4000000 in
theorem ok_law_raw_by (T : Txt K mg D) : FnOk P w K mg base CX0 5 (He.ga K "_law_raw_by") (D "_law_raw_by") ["_law_script"] (sp_law_raw_by K) := by
  refine T.F_law_raw_by.ok sc_law_raw_by (fun vs H Q E h => ?_) (fun cdv A outer s H vs Q E hr h => ?_)
  · obtain ⟨_, _, rfl, _⟩ := h
    rfl
  obtain ⟨a, ns, rfl, hS, hn, q⟩ := h
  refine ⟨_, PSs.nox (pss_cons (ps_set (i := 1) sc_law_raw_by.nd rfl (Or.inl rfl) (pe_call (ok_law_road_by T) (hr.mono (by decide)) rfl T.m_law_road_by T.F_law_road_by.kp T.b_law_road_by .nil pass0 (pa_cons (pe_call (ok_law_cell_at T) (hr.mono (by decide)) rfl T.m_law_cell_at T.F_law_cell_at.kp T.b_law_cell_at .nil pass0 (pa_cons (pv 0) (pa_cons pe_int pa_nil))) pa_nil)))
    (pss_cons (ps_set (i := 2) sc_law_raw_by.nd rfl (Or.inl rfl) (pe_call (ok_law_start_by T) (hr.mono (by decide)) rfl T.m_law_start_by T.F_law_start_by.kp T.b_law_start_by .nil pass0 (pa_cons (pv 1) (pa_cons (pe_call (ok_law_cell_at T) (hr.mono (by decide)) rfl T.m_law_cell_at T.F_law_cell_at.kp T.b_law_cell_at .nil pass0 (pa_cons (pv 0) (pa_cons pe_int pa_nil))) pa_nil))))
    (pss_cons (ps_set (i := 3) sc_law_raw_by.nd rfl (Or.inl rfl) (pe_lst (pa_cons (pe_ix ix_tup (pv 1) pe_int (fun _ _ => rfl)) (pa_cons (pe_ix ix_tup (pv 1) pe_int (fun _ _ => rfl)) (pa_cons (pe_call (ok_law_place_by T) (hr.mono (by decide)) rfl T.m_law_place_by T.F_law_place_by.kp T.b_law_place_by .nil pass0 (pa_cons (pv 1) (pa_cons (pe_call (ok_law_cell_at T) (hr.mono (by decide)) rfl T.m_law_cell_at T.F_law_cell_at.kp T.b_law_cell_at .nil pass0 (pa_cons (pv 0) (pa_cons pe_int pa_nil))) pa_nil))) (pa_cons (pv 2) pa_nil))))))
    (pss_cons (ps_for PassesOwn.never rfl (pi_list (pe_call (ok_law_stops_by T) hr rfl T.m_law_stops_by T.F_law_stops_by.kp T.b_law_stops_by .nil pass0 (pa_cons (pv 1) (pa_cons (pv 2) (pa_cons (pv 0) (pa_cons (pe_op op_mod (pe_call (ok_law_cell_at T) (hr.mono (by decide)) rfl T.m_law_cell_at T.F_law_cell_at.kp T.b_law_cell_at .nil pass0 (pa_cons (pv 0) (pa_cons pe_int pa_nil))) pe_int) pa_nil)))))) (pg_name (i := 4) sc_law_raw_by.nd rfl (Or.inl rfl))
      (pss_one (ps_set (i := 3) sc_law_raw_by.nd rfl (Or.inl rfl) (pe_op op_cat (pv 3) (pe_callTy call_list_of rfl T.m_list (by decide +kernel) (pa_cons (pv 4) pa_nil))))))
    (Evl.pss_cut (ps_if (pt_cmpR op_eq (pe_op op_mod (pe_op op_fdiv (pe_call (ok_law_cell_at T) (hr.mono (by decide)) rfl T.m_law_cell_at T.F_law_cell_at.kp T.b_law_cell_at .nil pass0 (pa_cons (pv 0) (pa_cons pe_int pa_nil))) pe_int) pe_int) pe_int (nomark _)) (pss_one (ps_set (i := 3) sc_law_raw_by.nd rfl (Or.inl rfl) (pe_op op_cat (pe_op op_cat (pv 3) (pe_slice sl_list (pv 3) (po_some pe_int) po_none)) (pe_slice sl_list (pv 3) (po_some pe_int) po_none)))) pss_nil)
    (pss_one (ps_ret (pv 3)))))))), ?_⟩
  walk_at "go"
  refine ⟨a, ns, 0, rfl, hS, hn, fun c0 => ⟨c0, rfl, fun ring len r H1 l1 l2 e1 _ hr => ?_⟩⟩
  have hR1 : SqT K H1 r (roadV ring len) := SqT.of hr
  walk_at "go"
  refine ⟨a, ns, 2, rfl, Evl.ex_l e1 hS, hn, fun c2 => ⟨r, ring, len, c2, rfl, hR1, l1, l2, fun st s0 s1 => ?_⟩⟩
  walk_at "go"
  refine ⟨a, ns, 1, rfl, Evl.ex_l e1 hS, hn, fun c1 => ⟨r, ring, len, c1, rfl, hR1, l1, fun home H2 h0 h1 e2 => ?_⟩⟩
  walk_at "go"
  intro l hl
  walk_at "go"
  have e3 : Ex H (upd H2 l (.lst (rawV (wordOf ring) [len, home, st]))) := (e1.trans e2).trans (Evl.Ex.new hl)
  have fr3 : H l = none := Evl.fresh_back (e1.trans e2) hl
  refine ⟨a, ns, 3, rfl, Evl.ex_l e3 hS, hn, fun c3 => ?_⟩
  walk_at "go"
  have m0 := Int.emod_nonneg c3 (show (10 : Int) ≠ 0 by decide)
  have m1 := Int.emod_lt_of_pos c3 (show (0 : Int) < 10 by decide)
  refine ⟨r, a, ring, len, st, _, ns, rfl, Evl.ex_t (e2.trans (Evl.Ex.new hl)) hR1, l1, l2, s0, s1, Evl.ex_l e3 hS, hn, m0, by omega, fun sts ps ls H4 hlen hgood e4 hls hls2 hP => ?_⟩
  walk_at "go"
  refine ⟨⟨_, SqL.of hls2⟩, for_list (K := K) (a := ls) (xs := ps.map V.ref) (fun i σ H' => ∃ is l x, σ = [some (.ref a), some (.ref r), some (.int st), some (.ref l), x] ∧ is.length = 3 + 4 * i ∧ H' l = some (.lst (rawV (wordOf ring) is)) ∧ H l = none ∧ Ex H H' ∧ H' ls = some (.lst (ps.map V.ref)) ∧ StopsR K H' ps sts) ⟨[len, home, st], l, _, rfl, rfl, e4 _ _ upd_same, fr3, e3.trans e4, hls2, hP⟩ (fun i σ H' _ ⟨_, _, _, _, _, _, _, _, z, _⟩ => SqL.of z) ?_ ?_⟩
  · rintro i y σ H' hi ⟨is, l', x, rfl, hl', hL, fr, e, hl2, hP'⟩
    obtain ⟨p, hp, rfl⟩ := map_ref_get hi
    obtain ⟨s, hs, hT⟩ := hP'.get hp
    have hi' : i < 10 := by
      have h1 := (List.getElem?_eq_some_iff.mp hs).1
      omega
    walk_at "go"
    intro l2 hl3
    walk_at "go"
    have ne : l' ≠ l2 := ne_of_none hL hl3
    refine ⟨l', l2, _, _, rfl, rfl, (by rw [upd_ne ne]; exact hL), upd_same, ?_, fun l3 hl4 => ?_⟩
    · rw [rawV_len, hl']
      exact Evl.sz_of (by show 3 + 4 * i + 1 + 4 ≤ 100000; omega)
    · have e5 : Ex H' (upd (upd H' l2 (.lst (stopV s))) l3 (.lst (rawV (wordOf ring) (is ++ stopI s)))) := (Evl.Ex.new hl3).trans (Evl.Ex.new hl4)
      have er : rawV (wordOf ring) is ++ stopV s = rawV (wordOf ring) (is ++ stopI s) := by
        unfold rawV
        rw [List.map_append]
        rfl
      rw [er]
      exact ⟨is ++ stopI s, l3, _, rfl, by rw [List.length_append, hl']; show 3 + 4 * i + 4 = _; omega, upd_same, Evl.fresh_back (e.trans (Evl.Ex.new hl3)) hl4, e.trans e5, e5 _ _ hl2, hP'.ex e5⟩
  · rintro σ H' ⟨is, l', x, rfl, hl', hL, fr, e, hl2, hP'⟩
    have hm : (ps.map V.ref).length = sts.length := by rw [List.length_map]; exact hP'.len
    rw [hm] at hl'
    refine ⟨fun σ' H'' => ∃ is m l, σ' = [some (.ref a), some (.ref r), some (.int st), some (.ref l), x] ∧ is.length = 3 + 4 * m ∧ m < 28 ∧ H'' l = some (.lst (rawV (wordOf ring) is)) ∧ H l = none ∧ Ex H H'', ?_, ?_⟩
    · walk_at "go"
      refine ⟨a, ns, 3, rfl, Evl.ex_l e hS, hn, fun c4 => ?_⟩
      walk_at "go"
      refine iteB (fun b => ?_) (fun b => ?_)
      · have hLs := SqL.of (K := K) hL
        have hn5 : (rawV (wordOf ring) is).length = 4 + 4 * sts.length := by rw [rawV_len, hl']; omega
        have cf : cutV (rawV (wordOf ring) is) (some (4 : Int)) none = (is.drop 3).map V.int := by
          have h1 := cut_from (xs := rawV (wordOf ring) is) (k := 4) (by omega)
          refine h1.trans ?_
          show ((V.str (wordOf ring)) :: is.map V.int).drop 4 = _
          rw [List.drop_succ_cons, List.map_drop]
        have hd3 : ((is.drop 3).map V.int).length = 4 * sts.length := by rw [List.length_map, List.length_drop]; omega
        walk_at "go"
        rw [cf]
        intro p1 hp1
        have n1 : l' ≠ p1 := ne_of_none hL hp1
        refine ⟨l', p1, _, _, rfl, rfl, (by rw [upd_ne n1]; exact hL), upd_same, Evl.sz_of (by omega), fun p2 hp2 => ?_⟩
        have n2 : l' ≠ p2 := fun z => by rw [← z, upd_ne n1, hL] at hp2; cases hp2
        have hLs2 : SqL K (upd (upd H' p1 (.lst ((is.drop 3).map V.int))) p2 (.lst (rawV (wordOf ring) is ++ (is.drop 3).map V.int))) l' (rawV (wordOf ring) is) := SqL.of (by rw [upd_ne n2, upd_ne n1]; exact hL)
        walk_at "go"
        rw [cf]
        intro p3 hp3
        have n3 : p2 ≠ p3 := fun z => by rw [← z, upd_same] at hp3; cases hp3
        refine ⟨p2, p3, _, _, rfl, rfl, (by rw [upd_ne n3]; exact upd_same), upd_same, ?_, fun p4 hp4 => ?_⟩
        · rw [List.length_append]
          exact Evl.sz_of (by omega)
        · have e6 : Ex H' (upd (upd (upd (upd H' p1 (.lst ((is.drop 3).map V.int))) p2 (.lst (rawV (wordOf ring) is ++ (is.drop 3).map V.int))) p3 (.lst ((is.drop 3).map V.int))) p4 (.lst (rawV (wordOf ring) (is ++ is.drop 3 ++ is.drop 3)))) := (((Evl.Ex.new hp1).trans (Evl.Ex.new hp2)).trans (Evl.Ex.new hp3)).trans (Evl.Ex.new hp4)
          have er : rawV (wordOf ring) is ++ (is.drop 3).map V.int ++ (is.drop 3).map V.int = rawV (wordOf ring) (is ++ is.drop 3 ++ is.drop 3) := by
            unfold rawV
            rw [List.map_append, List.map_append]
            rfl
          rw [er]
          exact ⟨is ++ is.drop 3 ++ is.drop 3, 3 * sts.length, p4, rfl, by rw [List.length_append, List.length_append, List.length_drop]; omega, by omega, upd_same, Evl.fresh_back (e.trans (((Evl.Ex.new hp1).trans (Evl.Ex.new hp2)).trans (Evl.Ex.new hp3))) hp4, e.trans e6⟩
      · exact ⟨is, _, l', rfl, hl', by omega, hL, fr, e⟩
    · rintro σ' H5 ⟨is, m, l', rfl, hl', hm, hL, fr, e⟩
      walk_at "go"
      exact q _ is m l' H5 hl' hm e fr hL
/-! #### _law_made -/
def sp_law_made (K : PySem.W.Frag) : Sp := fun vs H Q _ => ∃ (l sl : Addr) (w : Str) (len home start : Int) (ps : List Addr) (sts : List Stp) (_u : Unit), vs = [.ref l, .ref sl] ∧ H l = some (.lst (rawV w (rawI len home start sts))) ∧ SqL K H sl (ps.map V.ref) ∧ StopsR K H ps sts ∧
  (dayFlt w len home start sts = none → ∀ d r l' H', Ex H H' → H d = none → H l' = none → DayAt K H' d r l' w len home start ps sts → Q (.ref d) H') ∧ (∀ f, dayFlt w len home start sts = some f → ∀ H', Ex H H' → Q (.str (fltW f)) H')
set_option maxHeartbeats 4000000 in
theorem ok_law_made (T : Txt K mg D) : FnOk P w K mg base CX0 6 (He.ga K "_law_made") (D "_law_made") ["_law_raw", "_law_stops"] (sp_law_made K) := by
  refine T.F_law_made.ok sc_law_made (fun vs H Q E h => ?_) (fun cdv A outer s H vs Q E hr h => ?_)
  · obtain ⟨_, _, _, _, _, _, _, _, _, rfl, _⟩ := h
    rfl
  obtain ⟨l, sl, w', len, home, start, ps, sts, _, rfl, hL, hSl, hP, q1, q2⟩ := h
  refine ⟨_, PSs.nox (pss_one (ps_try_many (Wout := fun _ _ _ _ => False) rfl rfl takes0
      (fun W pn xe tk po => (by refine pss_eq (pss_one (ps_ret (pe_make T.k_Day (ok_Day___init T) hr rfl T.m_Day T.b_Day___init .nil (passes_len (F := fun cls d H => ∀ σ : L2.St, σ.length = 2 → W cls d σ H) tk rfl (fun _ _ σ _ hl h => h σ hl)) (pa_cons (pe_tup (pa_cons (pe_ix ix_list (pv 0) pe_int (fun _ _ => rfl)) (pa_cons (pe_ix ix_list (pv 0) pe_int (fun _ _ => rfl)) pa_nil))) (pa_cons (pe_ix ix_list (pv 0) pe_int (fun _ _ => rfl)) (pa_cons (pe_ix ix_list (pv 0) pe_int (fun _ _ => rfl)) (pa_cons (pv 1) pa_nil))))))) ?_; first | (dsimp only [L2.Cx.suite, L2.Cx.tr]; done) | (dsimp only [L2.Cx.suite, L2.Cx.tr]; rfl) | rfl))
      (HdsOk.cons ⟨rfl, by decide, Or.inl T.m_BadRoad⟩ (fun a oe cls d pn _ _ => (by refine pss_eq (pss_one (ps_ret pe_str)) ?_; first | (dsimp only [L2.Cx.suite, L2.Cx.tr]; done) | (dsimp only [L2.Cx.suite, L2.Cx.tr]; rfl) | rfl))
      (HdsOk.cons ⟨rfl, by decide, Or.inl T.m_OffRoad⟩ (fun a oe cls d pn _ _ => (by refine pss_eq (pss_one (ps_ret pe_str)) ?_; first | (dsimp only [L2.Cx.suite, L2.Cx.tr]; done) | (dsimp only [L2.Cx.suite, L2.Cx.tr]; rfl) | rfl))
      (HdsOk.cons ⟨rfl, by decide, Or.inl T.m_BadTime⟩ (fun a oe cls d pn _ _ => (by refine pss_eq (pss_one (ps_ret pe_str)) ?_; first | (dsimp only [L2.Cx.suite, L2.Cx.tr]; done) | (dsimp only [L2.Cx.suite, L2.Cx.tr]; rfl) | rfl))
      (HdsOk.cons ⟨rfl, by decide, Or.inl T.m_TooMany⟩ (fun a oe cls d pn _ _ => (by refine pss_eq (pss_one (ps_ret pe_str)) ?_; first | (dsimp only [L2.Cx.suite, L2.Cx.tr]; done) | (dsimp only [L2.Cx.suite, L2.Cx.tr]; rfl) | rfl))
      .nil)))))), ?_⟩
  have hLs : SqL K H l (rawV w' (rawI len home start sts)) := SqL.of hL
  have a0 : atI (rawV w' (rawI len home start sts)) 0 = some (.str w') := raw_0
  have a1 : atI (rawV w' (rawI len home start sts)) 1 = some (.int len) := raw_1
  have a2 : atI (rawV w' (rawI len home start sts)) 2 = some (.int home) := raw_2
  have a3 : atI (rawV w' (rawI len home start sts)) 3 = some (.int start) := raw_3
  walk_at "go"
  intro r hr
  have e1 : Ex H (upd H r (.tup [V.str w', V.int len])) := Evl.Ex.new hr
  have hLr := Evl.ex_l e1 hLs
  walk_at "go"
  intro x dx hx hdx ne
  have e2 : Ex (upd H r (.tup [V.str w', V.int len])) (upd (upd (upd H r (.tup [V.str w', V.int len])) dx (.own x)) x (.ins (He.ga K "Day") dx [])) := (Evl.Ex.new hdx).trans (Evl.Ex.new (by rw [upd_ne (Ne.symm ne)]; exact hx))
  refine ⟨x, dx, r, sl, w', len, home, start, ps, sts, (), rfl, upd_same, Evl.ex_t e2 (SqT.of upd_same), Evl.ex_l (e1.trans e2) hSl, hP.ex (e1.trans e2), fun z l' H3 keep fr hd hl' => ⟨rfl, ?_⟩, fun f z H3 e3 σ hσ => ?_⟩
  · have ek : Ex (upd H r (.tup [V.str w', V.int len])) H3 := fun b o hb => keep b o (ne_of_none hb hx) (e2 b o hb)
    exact q1 z x r l' H3 (e1.trans ek) (Evl.fresh_back e1 hx) (Evl.fresh_back (e1.trans e2) fr) ⟨⟨dx, hd⟩, Evl.ex_t ek (SqT.of upd_same), hl', hP.ex (e1.trans ek)⟩
  · have q2' := q2 f z H3 (e1.trans (e2.trans e3))
    cases f
    · exact ⟨true, T.e_BadRoad_BadRoad, fun _ a _ => q2', fun y => Bool.noConfusion y⟩
    · exact ⟨false, T.e_OffRoad_BadRoad, fun y => Bool.noConfusion y, fun _ => ⟨true, T.e_OffRoad_OffRoad, fun _ a _ => q2', fun y => Bool.noConfusion y⟩⟩
    · exact ⟨false, T.e_BadTime_BadRoad, fun y => Bool.noConfusion y, fun _ => ⟨false, T.e_BadTime_OffRoad, fun y => Bool.noConfusion y, fun _ => ⟨true, T.e_BadTime_BadTime, fun _ a _ => q2', fun y => Bool.noConfusion y⟩⟩⟩
    · exact ⟨false, T.e_TooMany_BadRoad, fun y => Bool.noConfusion y, fun _ => ⟨false, T.e_TooMany_OffRoad, fun y => Bool.noConfusion y, fun _ => ⟨false, T.e_TooMany_BadTime, fun y => Bool.noConfusion y, fun _ => ⟨true, T.e_TooMany_TooMany, fun _ a _ => q2', fun y => Bool.noConfusion y⟩⟩⟩⟩
/-! #### _law_based -/
def sp_law_based (K : PySem.W.Frag) : Sp := fun vs H Q _ => ∃ (l sl : Addr) (w : Str) (len home start : Int) (ps : List Addr) (sts : List Stp) (f : Flt), vs = [.ref l, .ref sl] ∧ H l = some (.lst (rawV w (rawI len home start sts))) ∧ SqL K H sl (ps.map V.ref) ∧ StopsR K H ps sts ∧
  dayFlt w len home start sts = some f ∧ ∀ H', Ex H H' → Q (.bl true) H'
set_option maxHeartbeats 4000000 in
theorem ok_law_based (T : Txt K mg D) : FnOk P w K mg base CX0 6 (He.ga K "_law_based") (D "_law_based") ["_law_raw", "_law_stops"] (sp_law_based K) := by
  refine T.F_law_based.ok sc_law_based (fun vs H Q E h => ?_) (fun cdv A outer s H vs Q E hr h => ?_)
  · obtain ⟨_, _, _, _, _, _, _, _, _, rfl, _⟩ := h
    rfl
  obtain ⟨l, sl, w', len, home, start, ps, sts, f, rfl, hL, hSl, hP, hf, q⟩ := h
  refine ⟨_, PSs.nox (pss_one (ps_try_as (i := 2) (Wout := fun _ _ _ _ => False) rfl rfl sc_law_based.nd rfl rfl ⟨rfl, by decide, Or.inl T.m_RouteError⟩ takes0
      (fun W pn xe tk po => (by refine pss_eq (pss_one (ps_ret (pe_make T.k_Day (ok_Day___init T) hr rfl T.m_Day T.b_Day___init .nil (passes_len (F := fun cls d H => ∀ σ : L2.St, σ.length = 4 → W cls d σ H) tk rfl (fun _ _ σ _ hl h => h σ hl)) (pa_cons (pe_tup (pa_cons (pe_ix ix_list (pv 0) pe_int (fun _ _ => rfl)) (pa_cons (pe_ix ix_list (pv 0) pe_int (fun _ _ => rfl)) pa_nil))) (pa_cons (pe_ix ix_list (pv 0) pe_int (fun _ _ => rfl)) (pa_cons (pe_ix ix_list (pv 0) pe_int (fun _ _ => rfl)) (pa_cons (pv 1) pa_nil))))))) ?_; first | (dsimp only [L2.Cx.suite, L2.Cx.tr]; done) | (dsimp only [L2.Cx.suite, L2.Cx.tr]; rfl) | rfl))
      (fun a oe cls d pn hz hf => (by refine pss_eq (pss_cons (ps_set (i := 3) sc_law_based.nd rfl (Or.inl rfl) (pe_lst (pa_cons (pe_callB (call_isX hz hf) rfl T.m_isinstance (by decide +kernel) (pa_cons (pv 2) (pa_cons (pe_glob (v := V.ref (He.ga K "BadRoad")) rfl T.m_BadRoad rfl) pa_nil))) (pa_cons (pe_callB (call_isX hz hf) rfl T.m_isinstance (by decide +kernel) (pa_cons (pv 2) (pa_cons (pe_glob (v := V.ref (He.ga K "OffRoad")) rfl T.m_OffRoad rfl) pa_nil))) (pa_cons (pe_callB (call_isX hz hf) rfl T.m_isinstance (by decide +kernel) (pa_cons (pv 2) (pa_cons (pe_glob (v := V.ref (He.ga K "BadTime")) rfl T.m_BadTime rfl) pa_nil))) pa_nil))))) (pss_cons (ps_set (i := 3) sc_law_based.nd rfl (Or.inl rfl) (pe_op op_cat (pv 3) (pe_lst (pa_cons (pe_callB (call_isX hz hf) rfl T.m_isinstance (by decide +kernel) (pa_cons (pv 2) (pa_cons (pe_glob (v := V.ref (He.ga K "TooMany")) rfl T.m_TooMany rfl) pa_nil))) (pa_cons (pe_callB (call_isX hz hf) rfl T.m_isinstance (by decide +kernel) (pa_cons (pv 2) (pa_cons (pe_glob (v := V.ref (He.ga K "BadOrder")) rfl T.m_BadOrder rfl) pa_nil))) (pa_cons (pe_callB (call_isX hz hf) rfl T.m_isinstance (by decide +kernel) (pa_cons (pv 2) (pa_cons (pe_glob (v := V.ref (He.ga K "Missed")) rfl T.m_Missed rfl) pa_nil))) pa_nil)))))) (pss_one (ps_ret (pe_and (pe_callB (call_isX hz hf) rfl T.m_isinstance (by decide +kernel) (pa_cons (pv 2) (pa_cons (pe_bltn (v := V.ty "ValueError") (u := Value.type "ValueError") rfl T.m_ValueError (by decide +kernel) rfl) pa_nil))) (pe_and (pe_cmpR op_eq (pe_bm PySem.F.plainAttrs_list PySem.F.slot_list_count PySem.F.type_list_count mt_countB (pv 3) (pa_cons pe_bl pa_nil)) pe_int (nomark _)) (pe_one (pe_not (pe_callB (call_isX hz hf) rfl T.m_isinstance (by decide +kernel) (pa_cons (pv 2) (pa_cons (pe_glob (v := V.ref (He.ga K "NoDay")) rfl T.m_NoDay rfl) pa_nil))))))))))) ?_; first | (dsimp only [L2.Cx.suite, L2.Cx.tr]; done) | (dsimp only [L2.Cx.suite, L2.Cx.tr]; rfl) | rfl)))), ?_⟩
  have hLs : SqL K H l (rawV w' (rawI len home start sts)) := SqL.of hL
  have a0 : atI (rawV w' (rawI len home start sts)) 0 = some (.str w') := raw_0
  have a1 : atI (rawV w' (rawI len home start sts)) 1 = some (.int len) := raw_1
  have a2 : atI (rawV w' (rawI len home start sts)) 2 = some (.int home) := raw_2
  have a3 : atI (rawV w' (rawI len home start sts)) 3 = some (.int start) := raw_3
  walk_at "go"
  intro r hr
  have e1 : Ex H (upd H r (.tup [V.str w', V.int len])) := Evl.Ex.new hr
  have hLr := Evl.ex_l e1 hLs
  walk_at "go"
  intro x dx hx hdx ne
  have e2 : Ex (upd H r (.tup [V.str w', V.int len])) (upd (upd (upd H r (.tup [V.str w', V.int len])) dx (.own x)) x (.ins (He.ga K "Day") dx [])) := (Evl.Ex.new hdx).trans (Evl.Ex.new (by rw [upd_ne (Ne.symm ne)]; exact hx))
  refine ⟨x, dx, r, sl, w', len, home, start, ps, sts, (), rfl, upd_same, Evl.ex_t e2 (SqT.of upd_same), Evl.ex_l (e1.trans e2) hSl, hP.ex (e1.trans e2), fun z l' H3 keep fr hd hl' => ?_, fun f' z H3 e3 σ hσ => ?_⟩
  · rw [hf] at z
    cases z
  have eH : Ex H H3 := e1.trans (e2.trans e3)
  obtain ⟨z0, z1, z2, z3, rfl⟩ : ∃ z0 z1 z2 z3, σ = [z0, z1, z2, z3] := by
    match σ, hσ with
    | [z0, z1, z2, z3], _ => exact ⟨z0, z1, z2, z3, rfl⟩
  cases f'
  · refine ⟨true, T.e_BadRoad_RouteError, fun _ a fa => ?_, fun y => Bool.noConfusion y⟩
    have c1 := T.ec_BadRoad
    have i1 := T.is_BadRoad_BadRoad
    have i2 := T.is_BadRoad_OffRoad
    have i3 := T.is_BadRoad_BadTime
    have i4 := T.is_BadRoad_TooMany
    have i5 := T.is_BadRoad_BadOrder
    have i6 := T.is_BadRoad_Missed
    have i7 := T.is_BadRoad_ValueError
    have i8 := T.is_BadRoad_NoDay
    walk_at "go"
    intro p4 hp4
    walk_at "go"
    intro p5 hp5
    have n5 : p4 ≠ p5 := fun y => by rw [← y, upd_same] at hp5; cases hp5
    refine ⟨p4, p5, _, _, rfl, rfl, (by rw [upd_ne n5]; exact upd_same), upd_same, Evl.sz_of (by decide), fun p6 hp6 => ?_⟩
    walk_at "go"
    refine ⟨Or.inl ⟨rfl, _, SqL.of upd_same⟩, p6, [true, false, false, false, false, false], true, rfl, rfl, SqL.of upd_same, ?_⟩
    walk_at "go"
    exact q _ (((eH.trans (Evl.Ex.new hp4)).trans (Evl.Ex.new hp5)).trans (Evl.Ex.new hp6))
  · refine ⟨true, T.e_OffRoad_RouteError, fun _ a fa => ?_, fun y => Bool.noConfusion y⟩
    have c1 := T.ec_OffRoad
    have i1 := T.is_OffRoad_BadRoad
    have i2 := T.is_OffRoad_OffRoad
    have i3 := T.is_OffRoad_BadTime
    have i4 := T.is_OffRoad_TooMany
    have i5 := T.is_OffRoad_BadOrder
    have i6 := T.is_OffRoad_Missed
    have i7 := T.is_OffRoad_ValueError
    have i8 := T.is_OffRoad_NoDay
    walk_at "go"
    intro p4 hp4
    walk_at "go"
    intro p5 hp5
    have n5 : p4 ≠ p5 := fun y => by rw [← y, upd_same] at hp5; cases hp5
    refine ⟨p4, p5, _, _, rfl, rfl, (by rw [upd_ne n5]; exact upd_same), upd_same, Evl.sz_of (by decide), fun p6 hp6 => ?_⟩
    walk_at "go"
    refine ⟨Or.inl ⟨rfl, _, SqL.of upd_same⟩, p6, [false, true, false, false, false, false], true, rfl, rfl, SqL.of upd_same, ?_⟩
    walk_at "go"
    exact q _ (((eH.trans (Evl.Ex.new hp4)).trans (Evl.Ex.new hp5)).trans (Evl.Ex.new hp6))
  · refine ⟨true, T.e_BadTime_RouteError, fun _ a fa => ?_, fun y => Bool.noConfusion y⟩
    have c1 := T.ec_BadTime
    have i1 := T.is_BadTime_BadRoad
    have i2 := T.is_BadTime_OffRoad
    have i3 := T.is_BadTime_BadTime
    have i4 := T.is_BadTime_TooMany
    have i5 := T.is_BadTime_BadOrder
    have i6 := T.is_BadTime_Missed
    have i7 := T.is_BadTime_ValueError
    have i8 := T.is_BadTime_NoDay
    walk_at "go"
    intro p4 hp4
    walk_at "go"
    intro p5 hp5
    have n5 : p4 ≠ p5 := fun y => by rw [← y, upd_same] at hp5; cases hp5
    refine ⟨p4, p5, _, _, rfl, rfl, (by rw [upd_ne n5]; exact upd_same), upd_same, Evl.sz_of (by decide), fun p6 hp6 => ?_⟩
    walk_at "go"
    refine ⟨Or.inl ⟨rfl, _, SqL.of upd_same⟩, p6, [false, false, true, false, false, false], true, rfl, rfl, SqL.of upd_same, ?_⟩
    walk_at "go"
    exact q _ (((eH.trans (Evl.Ex.new hp4)).trans (Evl.Ex.new hp5)).trans (Evl.Ex.new hp6))
  · refine ⟨true, T.e_TooMany_RouteError, fun _ a fa => ?_, fun y => Bool.noConfusion y⟩
    have c1 := T.ec_TooMany
    have i1 := T.is_TooMany_BadRoad
    have i2 := T.is_TooMany_OffRoad
    have i3 := T.is_TooMany_BadTime
    have i4 := T.is_TooMany_TooMany
    have i5 := T.is_TooMany_BadOrder
    have i6 := T.is_TooMany_Missed
    have i7 := T.is_TooMany_ValueError
    have i8 := T.is_TooMany_NoDay
    walk_at "go"
    intro p4 hp4
    walk_at "go"
    intro p5 hp5
    have n5 : p4 ≠ p5 := fun y => by rw [← y, upd_same] at hp5; cases hp5
    refine ⟨p4, p5, _, _, rfl, rfl, (by rw [upd_ne n5]; exact upd_same), upd_same, Evl.sz_of (by decide), fun p6 hp6 => ?_⟩
    walk_at "go"
    refine ⟨Or.inl ⟨rfl, _, SqL.of upd_same⟩, p6, [false, false, false, true, false, false], true, rfl, rfl, SqL.of upd_same, ?_⟩
    walk_at "go"
    exact q _ (((eH.trans (Evl.Ex.new hp4)).trans (Evl.Ex.new hp5)).trans (Evl.Ex.new hp6))
/-! #### law -/
def sp_law (K : PySem.W.Frag) : Sp := fun vs H Q _ => ∃ (a : Addr) (ns : List Int), vs = [.ref a] ∧ SqL K H a (ns.map V.int) ∧ ns.length ≤ 63 ∧ ∀ H', Q (.bl true) H'
theorem dayFlt_none {w : Str} {len home start : Int} {sts : List Stp} (h : dayFlt w len home start sts = none) : isRoad w len ∧ onRoad (decide (w = "ring")) len home ∧ isTime start ∧ ¬ 7 < sts.length ∧ stopsFlt (decide (w = "ring")) len sts = none := by
  unfold dayFlt at h
  by_cases c1 : isRoad w len
  · rw [if_neg (fun z => z c1)] at h
    by_cases c2 : onRoad (decide (w = "ring")) len home
    · rw [if_neg (fun z => z c2)] at h
      by_cases c3 : isTime start
      · rw [if_neg (fun z => z c3)] at h
        by_cases c4 : 7 < sts.length
        · rw [if_pos c4] at h; cases h
        · rw [if_neg c4] at h
          exact ⟨c1, c2, c3, c4, h⟩
      · rw [if_pos c3] at h; cases h
    · rw [if_pos c2] at h; cases h
  · rw [if_pos c1] at h; cases h
theorem fltW_ne (f : Flt) : (V.str (fltW f) = V.str "day") ↔ False := by cases f <;> decide +kernel
theorem strOk_line : PyData.strOk "line" = true := by decide +kernel
theorem strOk_ring : PyData.strOk "ring" = true := by decide +kernel
theorem road_shaped {w : Str} {len : Int} (h : w = "line" ∨ w = "ring") : SeqAt.shaped (.tuple [.str w, .int len]) = true := by
  have hs : PyData.strOk w = true := by
    rcases h with h | h <;> subst h
    · exact strOk_line
    · exact strOk_ring
  unfold SeqAt.shaped
  simp [PyData.canLay0, PyData.canLayAll0, PyData.depth, PyData.depthAll, hs]
set_option maxHeartbeats 4000000 in
theorem ok_law (T : Txt K mg D) : FnOk P w K mg base CX0 7 (He.ga K "law") (D "law") ["_law_script"] (sp_law K) := by
  refine T.F_law.ok sc_law (fun vs H Q E h => ?_) (fun cdv A outer s H vs Q E hr h => ?_)
  · obtain ⟨_, _, rfl, _⟩ := h
    rfl
  obtain ⟨a, ns, rfl, hS, hn, q⟩ := h
  refine ⟨_, PSs.nox (pss_cons (ps_set (i := 1) sc_law.nd rfl (Or.inr rfl) (pe_call (ok_law_raw_by T) (hr.mono (by decide)) rfl T.m_law_raw_by T.F_law_raw_by.kp T.b_law_raw_by .nil pass0 (pa_cons (pv 0) pa_nil)))
    (pss_cons (ps_for PassesOwn.never rfl (pi_range1 rfl T.m_range (pa_cons (pe_op op_mod (pe_call (ok_law_cell_at T) (hr.mono (by decide)) rfl T.m_law_cell_at T.F_law_cell_at.kp T.b_law_cell_at .nil pass0 (pa_cons (pv 0) (pa_cons pe_int pa_nil))) pe_int) pa_nil)) (pg_name (i := 2) sc_law.nd rfl (Or.inl rfl))
      (pss_one (ps_set (i := 1) sc_law.nd rfl (Or.inr rfl) (pe_call (ok_law_spoilt T) (hr.mono (by decide)) rfl T.m_law_spoilt T.F_law_spoilt.kp T.b_law_spoilt .nil pass0 (pa_cons (pv 1) (pa_cons (pe_call (ok_law_cell_at T) (hr.mono (by decide)) rfl T.m_law_cell_at T.F_law_cell_at.kp T.b_law_cell_at .nil pass0 (pa_cons (pv 0) (pa_cons (pe_op op_add pe_int (pe_op op_mul pe_int (pv 2))) pa_nil))) (pa_cons (pe_call (ok_law_cell_at T) (hr.mono (by decide)) rfl T.m_law_cell_at T.F_law_cell_at.kp T.b_law_cell_at .nil pass0 (pa_cons (pv 0) (pa_cons (pe_op op_add pe_int (pe_op op_mul pe_int (pv 2))) pa_nil))) pa_nil)))))))
    (pss_cons (ps_setLc (i := 3) (own := [("_law_k", 2)]) (g := gName 2) (tt := tYes) rfl sc_law.nd rfl rfl (sw_true rfl rfl rfl (by decide +kernel)) (pi_range3 rfl T.m_range (pa_cons pe_int (pa_cons (pe_callB call_len_seq rfl T.m_len PySem.boot_len (pa_cons (pv 1) pa_nil)) (pa_cons pe_int pa_nil)))) (blkOk_by (own := [("_law_k", 2)]) (N := N_law) (sc := defScope s_law) (by decide +kernel)) (fun _ _ _ _ _ => pg_name (i := 2) sc_law.nd rfl (Or.inl rfl)) (fun _ _ _ _ _ => pts_nil) (fun _ _ _ _ _ => (by refine' pe_eq (t' := ?tt) (pe_tup (pa_cons (pe_ix ix_list (pv 1) (pv 2) (fun _ _ => rfl)) (pa_cons (pe_ix ix_list (pv 1) (pe_op op_add (pv 2) pe_int) (fun _ _ => rfl)) (pa_cons (pe_ix ix_list (pv 1) (pe_op op_add (pv 2) pe_int) (fun _ _ => rfl)) (pa_cons (pe_ix ix_list (pv 1) (pe_op op_add (pv 2) pe_int) (fun _ _ => rfl)) pa_nil))))) ?qq; case qq => (first | (dsimp only [L2.Cx.blk]; done) | (dsimp only [L2.Cx.blk]; rfl) | rfl))))
    (pss_cons (ps_set (i := 4) sc_law.nd rfl (Or.inl rfl) (pe_callTy call_list_of rfl T.m_list (by decide +kernel) (pa_cons (pv 3) pa_nil)))
    (pss_cons (ps_set (i := 5) sc_law.nd rfl (Or.inl rfl) (pe_call (ok_law_made T) hr rfl T.m_law_made T.F_law_made.kp T.b_law_made .nil pass0 (pa_cons (pv 1) (pa_cons (pv 4) pa_nil))))
    (pss_cons (ps_set (i := 6) sc_law.nd rfl (Or.inl rfl) (pe_call (ok_law_due T) (hr.mono (by decide)) rfl T.m_law_due T.F_law_due.kp T.b_law_due .nil pass0 (pa_cons (pv 1) pa_nil)))
    (pss_cons (ps_if (pt_cmpR op_ne (pv 6) pe_str (nomark _)) (pss_one (ps_ret (pe_and (pe_cmpR op_eq (pv 5) (pv 6) (nomark _)) (pe_and (pe_cmpR (op_eqD hr.units) (pv 4) (pv 3) (nomark _)) (pe_one (pe_cmpR op_isBl (pe_call (ok_law_based T) hr rfl T.m_law_based T.F_law_based.kp T.b_law_based .nil pass0 (pa_cons (pv 1) (pa_cons (pe_callTy call_list_of rfl T.m_list (by decide +kernel) (pa_cons (pv 3) pa_nil)) pa_nil))) pe_bl (nomark _))))))) pss_nil)
    (pss_cons (ps_if (PW.pt (pw_or (pt_not (pt_val (pe_callB call_isi rfl T.m_isinstance (by decide +kernel) (pa_cons (pv 5) (pa_cons (pe_glob (v := V.ref (He.ga K "Day")) rfl T.m_Day rfl) pa_nil))))) (pw_or1 (pt_cmpR (op_neD hr.units) (pv 4) (pv 3) (nomark _))))) (pss_one (ps_ret pe_bl)) pss_nil)
    (pss_cons (ps_expr (pe_bm PySem.F.plainAttrs_list PySem.F.slot_list_append PySem.F.type_list_append mt_append (pv 4) (pa_cons (pe_tup (pa_cons pe_int (pa_cons pe_int (pa_cons pe_int (pa_cons pe_int pa_nil))))) pa_nil)))
    (pss_cons (ps_set (i := 7) sc_law.nd rfl (Or.inl rfl) (pe_make T.k_Day (ok_Day___init T) (hr.mono (by decide)) rfl T.m_Day T.b_Day___init .nil passL (pa_cons (pe_tup (pa_cons pe_str (pa_cons (pe_ix ix_list (pv 1) pe_int (fun _ _ => rfl)) pa_nil))) (pa_cons pe_int (pa_cons pe_int (pa_cons (pe_lst (pa_cons (pe_tup (pa_cons pe_int (pa_cons pe_int (pa_cons pe_int (pa_cons pe_int pa_nil))))) pa_nil)) pa_nil))))))
    (pss_cons (ps_if (PW.pt (pw_or (pt_cmpR (op_neD hr.units) (pe_fld (pv 7) rfl) (pe_lst (pa_cons (pe_tup (pa_cons pe_int (pa_cons pe_int (pa_cons pe_int (pa_cons pe_int pa_nil))))) pa_nil)) (nomark _)) (pw_or (pt_cmpR (op_neD hr.units) (pe_fld (pv 7) rfl) (pe_tup (pa_cons pe_str (pa_cons (pe_ix ix_list (pv 1) pe_int (fun _ _ => rfl)) pa_nil))) (nomark _)) (pw_or (pt_cmpR op_ne (pe_fld (pv 7) rfl) pe_int (nomark _)) (pw_or1 (pt_cmpR op_ne (pe_fld (pv 7) rfl) pe_int (nomark _))))))) (pss_one (ps_ret pe_bl)) pss_nil)
    (pss_cons (ps_if (PW.pt (pw_or (pt_not (pt_val (pe_callB call_isi rfl T.m_isinstance (by decide +kernel) (pa_cons (pe_fld (pv 5) rfl) (pa_cons (pe_bltn (v := V.ty "list") (u := Value.type "list") rfl T.m_list (by decide +kernel) rfl) pa_nil))))) (pw_or (pt_cmpR (op_neD hr.units) (pe_fld (pv 5) rfl) (pv 3) (nomark _)) (pw_or1 (pt_cmpR (op_neD hr.units) (pe_fld (pv 5) rfl) (pe_tup (pa_cons (pe_ix ix_list (pv 1) pe_int (fun _ _ => rfl)) (pa_cons (pe_ix ix_list (pv 1) pe_int (fun _ _ => rfl)) pa_nil))) (nomark _)))))) (pss_one (ps_ret pe_bl)) pss_nil)
    (pss_one (ps_ret (pe_and (pe_call (ok_law_whole T) (hr.mono (by decide)) rfl T.m_law_whole T.F_law_whole.kp T.b_law_whole .nil pass0 (pa_cons (pe_fld (pv 5) rfl) pa_nil)) (pe_and (pe_cmpR op_eq (pe_fld (pv 5) rfl) (pe_ix ix_list (pv 1) pe_int (fun _ _ => rfl)) (nomark _)) (pe_and (pe_call (ok_law_whole T) (hr.mono (by decide)) rfl T.m_law_whole T.F_law_whole.kp T.b_law_whole .nil pass0 (pa_cons (pe_fld (pv 5) rfl) pa_nil)) (pe_one (pe_cmpR op_eq (pe_fld (pv 5) rfl) (pe_ix ix_list (pv 1) pe_int (fun _ _ => rfl)) (nomark _)))))))))))))))))))), ?_⟩
  walk_at "go"
  intro w0 is0 m l0 H1 hlen0 hm e1 fr0 hl0
  walk_at "go"
  refine ⟨a, ns, 40, rfl, Evl.ex_l e1 hS, hn, fun c40 => ?_⟩
  walk_at "go"
  have m0 := Int.emod_nonneg c40 (show (4 : Int) ≠ 0 by decide)
  have m1 := Int.emod_lt_of_pos c40 (show (0 : Int) < 4 by decide)
  refine for_range (lo := 0) (n := (c40 % 4).toNat) (fun i σ H' => ∃ w is l x, σ = [some (.ref a), some (.ref l), x, none, none, none, none, none] ∧ is.length = 3 + 4 * m ∧ H' l = some (.lst (rawV w is)) ∧ Ex H H') ⟨w0, is0, l0, _, rfl, hlen0, hl0, e1⟩ ?_ ?_
  · rintro i σ H' hi ⟨w', is, l, x, rfl, hlen, hl, e⟩
    walk_at "go"
    refine ⟨a, ns, _, rfl, Evl.ex_l e hS, hn, fun x1 => ?_⟩
    walk_at "go"
    refine ⟨a, ns, _, rfl, Evl.ex_l e hS, hn, fun x2 => ?_⟩
    walk_at "go"
    refine ⟨l, w', is, m, x1, x2, rfl, hl, hlen, hm, fun w2 is2 l2 H3 hlen2 e3 fr3 hl2 => ?_⟩
    exact ⟨w2, is2, l2, _, rfl, hlen2, hl2, e.trans e3⟩
  rintro σ H2 ⟨w', is, l, x, rfl, hlen, hl, e2⟩
  obtain ⟨len, home, start, sts, rfl, hm2⟩ := rawI_of hlen
  have hls : SqL K H2 l (rawV w' (rawI len home start sts)) := SqL.of hl
  have hlV : (rawV w' (rawI len home start sts)).length = 4 + 4 * sts.length := by rw [rawV_len, rawI_len]; omega
  have hlI : (((rawV w' (rawI len home start sts)).length : Nat) : Int) = 4 + 4 * (sts.length : Int) := by rw [hlV]; omega
  walk_at "go"
  refine ⟨4, _, 4, sts.length, rfl, (by rw [hlI]; exact rg4 _ (by omega)), fun D hD => ?_⟩
  refine ⟨fun i m' H3 => m' = sts.length - i ∧ i ≤ sts.length ∧ ∃ ps, Ex H2 H3 ∧ H3 D = some (.lst (ps.map V.ref)) ∧ StopsR K H3 ps (sts.take i), ⟨_, rfl, Nat.zero_le _, [], Evl.Ex.new hD, upd_same, .nil⟩, ?_⟩
  rintro i m' H3 ⟨rfl, hin, ps, e3, hD3, hP3⟩
  rcases Nat.lt_or_ge i sts.length with hi | hi
  · refine Or.inr ⟨hi, fun H4 => ∃ ps, Ex H2 H4 ∧ H4 D = some (.lst (ps.map V.ref)) ∧ StopsR K H4 ps (sts.take (i + 1)), fun H4 z => ⟨_, (by omega : sts.length - (i + 1) < sts.length - i), rfl, hi, z⟩, ?_⟩
    rintro x4 H4 ⟨rfl, rfl⟩
    have hs : sts[i]? = some sts[i] := List.getElem?_eq_getElem hi
    obtain ⟨b0, b1, b2, b3⟩ := raw_at (w := w') (len := len) (home := home) (start := start) hs
    have hls' := Evl.ex_l e3 hls
    walk_at "go"
    intro p hp
    have hps : ps.length = i := by rw [hP3.len, List.length_take]; omega
    have hDn : D ≠ p := ne_of_none hD3 hp
    refine ⟨ps.map V.ref, (by rw [upd_ne hDn]; exact hD3), Evl.sz_lt (by rw [List.length_map]; omega), ps ++ [p], ?_, ?_, ?_⟩
    · exact Evl.Ex.mut (e3.trans (Evl.Ex.new hp)) hD
    · rw [upd_same, List.map_append]
      rfl
    · have ht : sts.take (i + 1) = sts.take i ++ [sts[i]] := by rw [List.take_succ, hs]; rfl
      rw [ht]
      exact StopsR.at_lst (ys := ps.map V.ref) (by rw [upd_ne hDn]; exact hD3) (StopsR.snoc (SqT.of upd_same) (hP3.ex (Evl.Ex.new hp)))
  obtain rfl : i = sts.length := by omega
  refine Or.inl ⟨hi, ?_⟩
  rw [List.take_length] at hP3
  have hl3 : H3 l = some (.lst (rawV w' (rawI len home start sts))) := e3 _ _ hl
  have hDs : SqL K H3 D (ps.map V.ref) := SqL.of hD3
  walk_at "go"
  intro hd_ hhd
  have e4 := Evl.Ex.new (o := .lst (ps.map V.ref)) hhd
  have hh4 : (upd H3 hd_ (.lst (ps.map V.ref))) hd_ = some (.lst (ps.map V.ref)) := upd_same
  generalize hH4 : upd H3 hd_ (.lst (ps.map V.ref)) = H4 at e4 hh4
  have nDh : D ≠ hd_ := ne_of_none hD3 hhd
  walk_at "go"
  have hP4 := hP3.ex e4
  have hl4 := e4 _ _ hl3
  have hD4 := e4 _ _ hD3
  have lt28 : sts.length < 28 := by omega
  cases hf : dayFlt w' len home start sts with
  | some f =>
    refine ⟨l, hd_, w', len, home, start, ps, sts, (), rfl, hl4, SqL.of hh4, hP4, fun z => (by rw [hf] at z; cases z), fun f' z H5 e5 => ?_⟩
    have ef : f' = f := Option.some.inj (z.symm.trans hf)
    subst ef
    have hl5 := e5 _ _ hl4
    walk_at "go"
    refine ⟨l, w', len, home, start, sts, rfl, hl5, lt28, ?_⟩
    rw [hf]
    walk_at "go"
    refine iteTb (by show (!decide (V.str (fltW f') = V.str "day")) = true; rw [decF (fun z => (fltW_ne f').mp z)]; rfl) ?_
    walk_at "go"
    refine iteTb (decT rfl) ?_
    walk_at "go"
    refine ⟨stopsD sts, stopsD sts, stops_dp (SqL.of (e5 _ _ hh4)) (hP4.ex e5), stops_dp (SqL.of (e5 _ _ hD4)) (hP4.ex e5), shaped_stops sts, shaped_stops sts, ?_⟩
    rw [eqv_self (shaped_stops sts)]
    walk_at "go"
    have hD5 : SqL K H5 D (ps.map V.ref) := SqL.of (e5 _ _ hD4)
    walk_at "go"
    intro p hp
    walk_at "go"
    have e6 := Evl.Ex.new (o := .lst (ps.map V.ref)) hp
    refine ⟨l, p, w', len, home, start, ps, sts, f', rfl, e6 _ _ hl5, SqL.of upd_same, (hP4.ex e5).ex e6, hf, fun H7 e7 => ?_⟩
    walk_at "go"
    exact q _
  | none =>
    refine ⟨l, hd_, w', len, home, start, ps, sts, (), rfl, hl4, SqL.of hh4, hP4, fun _ d r l' H5 e5 frd frl hd5 => ?_, fun f' z => (by rw [hf] at z; cases z)⟩
    obtain ⟨g1, g2, g3, g4, g5⟩ := dayFlt_none hf
    have hl5 := e5 _ _ hl4
    walk_at "go"
    refine ⟨l, w', len, home, start, sts, rfl, hl5, lt28, ?_⟩
    rw [hf]
    walk_at "go"
    obtain ⟨⟨dx, k1⟩, k2, k3, k4⟩ := id hd5
    refine ⟨_, _, .ref (He.ga K "Day"), .ref (He.ga K "Day"), true, rfl, .own _, .base (.ins k1 T.cl_Day T.iy_Day.ha T.iy_Day.hn T.iy_Day.ht T.iy_Day.hm), T.iz_Day, ?_⟩
    walk_at "go"
    refine ⟨stopsD sts, stopsD sts, stops_dp (SqL.of (e5 _ _ hh4)) (hP4.ex e5), stops_dp (SqL.of (e5 _ _ hD4)) (hP4.ex e5), shaped_stops sts, shaped_stops sts, ?_⟩
    rw [eqv_self (shaped_stops sts)]
    walk_at "go"
    refine ⟨Or.inl ⟨rfl, _, SqL.of (e5 _ _ hh4)⟩, ?_⟩
    walk_at "go"
    intro p hp
    have e6 := Evl.Ex.new (o := .tup [V.int 0, V.int 0, V.int 0, V.int 0]) hp
    have nlh : l' ≠ hd_ := fun z => by rw [z, hh4] at frl; cases frl
    have hm6 : StopsR K H5 ps sts := k4
    refine ⟨hd_, _, _, rfl, rfl, e6 _ _ (e5 _ _ hh4), Evl.sz_lt (by rw [List.length_map, hm6.len]; omega), ?_⟩
    have day7 : DayAt K (upd (upd H5 p (.tup [V.int 0, V.int 0, V.int 0, V.int 0])) hd_ (.lst (ps.map V.ref ++ [.ref p]))) d r l' w' len home start ps sts := (hd5.ex e6).at_lst (e6 _ _ (e5 _ _ hh4)) nlh
    have hD7 : (upd (upd H5 p (.tup [V.int 0, V.int 0, V.int 0, V.int 0])) hd_ (.lst (ps.map V.ref ++ [.ref p]))) D = some (.lst (ps.map V.ref)) := by rw [upd_ne nDh]; exact e6 _ _ (e5 _ _ hD4)
    have nlh2 : l ≠ hd_ := fun z => by rw [← z, hl3] at hhd; cases hhd
    have hl7 : (upd (upd H5 p (.tup [V.int 0, V.int 0, V.int 0, V.int 0])) hd_ (.lst (ps.map V.ref ++ [.ref p]))) l = some (.lst (rawV w' (rawI len home start sts))) := by rw [upd_ne nlh2]; exact e6 _ _ hl5
    generalize upd (upd H5 p (.tup [V.int 0, V.int 0, V.int 0, V.int 0])) hd_ (.lst (ps.map V.ref ++ [.ref p])) = H7 at day7 hD7 hl7
    have hls7 : SqL K H7 l (rawV w' (rawI len home start sts)) := SqL.of hl7
    have i0 : atI (rawV w' (rawI len home start sts)) 0 = some (.str w') := raw_0
    have i1 : atI (rawV w' (rawI len home start sts)) 1 = some (.int len) := raw_1
    have i2 : atI (rawV w' (rawI len home start sts)) 2 = some (.int home) := raw_2
    have i3 : atI (rawV w' (rawI len home start sts)) 3 = some (.int start) := raw_3
    walk_at "go"
    intro r2 hr2
    walk_at "go"
    intro t2 ht2
    walk_at "go"
    intro sl2 hsl2
    walk_at "go"
    intro x2 dx2 hx2 hdx2 nex
    have e8 : Ex H7 (upd (upd (upd H7 r2 (.tup [V.str "ring", V.int len])) t2 (.tup [V.int 0, V.int 3, V.int 4, V.int 5])) sl2 (.lst [V.ref t2])) := ((Evl.Ex.new hr2).trans (Evl.Ex.new ht2)).trans (Evl.Ex.new hsl2)
    have sr2 : SqT K (upd (upd (upd H7 r2 (.tup [V.str "ring", V.int len])) t2 (.tup [V.int 0, V.int 3, V.int 4, V.int 5])) sl2 (.lst [V.ref t2])) r2 [V.str "ring", V.int len] := Evl.ex_t ((Evl.Ex.new ht2).trans (Evl.Ex.new hsl2)) (SqT.of upd_same)
    have st2 : SqT K (upd (upd (upd H7 r2 (.tup [V.str "ring", V.int len])) t2 (.tup [V.int 0, V.int 3, V.int 4, V.int 5])) sl2 (.lst [V.ref t2])) t2 (stopV (0, 3, 4, 5)) := Evl.ex_t (Evl.Ex.new hsl2) (SqT.of upd_same)
    have ss2 : SqL K (upd (upd (upd H7 r2 (.tup [V.str "ring", V.int len])) t2 (.tup [V.int 0, V.int 3, V.int 4, V.int 5])) sl2 (.lst [V.ref t2])) sl2 ([t2].map V.ref) := SqL.of upd_same
    generalize upd (upd (upd H7 r2 (.tup [V.str "ring", V.int len])) t2 (.tup [V.int 0, V.int 3, V.int 4, V.int 5])) sl2 (.lst [V.ref t2]) = H8 at e8 sr2 st2 ss2 hx2 hdx2
    have e9 : Ex H8 (upd (upd H8 dx2 (.own x2)) x2 (.ins (He.ga K "Day") dx2 [])) := (Evl.Ex.new hdx2).trans (Evl.Ex.new (by rw [upd_ne (Ne.symm nex)]; exact hx2))
    have len1 : 1 ≤ len ∧ len ≤ 1000000000 := g1.2
    have fl2 : dayFlt "ring" len 0 7 [(0, 3, 4, 5)] = none := by
      have p1 : isRoad "ring" len := ⟨Or.inr rfl, len1⟩
      have p2 : onRoad (decide (("ring" : Str) = "ring")) len 0 := by
        rw [decT rfl]
        exact ⟨by decide, by show 0 < len; omega⟩
      unfold dayFlt
      rw [if_neg (fun z => z p1), if_neg (fun z => z p2), if_neg (by decide), if_neg (by decide)]
      unfold stopsFlt stopFlt
      rw [if_neg (fun z => z p2), if_neg (by decide), if_neg (by decide)]
      rfl
    refine ⟨x2, dx2, r2, sl2, "ring", len, 0, 7, [t2], [(0, 3, 4, 5)], (), rfl, upd_same, Evl.ex_t e9 sr2, Evl.ex_l e9 ss2, .cons (Evl.ex_t e9 st2) .nil, fun z2 l2 H9 keep2 fr2 hd2 hl2 => ⟨rfl, ?_⟩, fun f z => (by rw [fl2] at z; cases z)⟩
    have ek2 : Ex H8 H9 := fun b o hb => keep2 b o (ne_of_none hb hx2) (e9 b o hb)
    have e79 := e8.trans ek2
    have day9 := day7.ex e79
    have hl9 := Evl.ex_l e79 hls7
    have hD9 := e79 _ _ hD7
    have sr9 := Evl.ex_t ek2 sr2
    have st9 := Evl.ex_t ek2 st2
    walk_at "go"
    refine ⟨x2, _, dx2, _, _, rfl, hd2, T.cl_Day, T.na_Day_stops, rfl, ?_⟩
    walk_at "go"
    intro t3 ht3
    walk_at "go"
    intro sl3 hsl3
    have e10 : Ex H9 (upd (upd H9 t3 (.tup [V.int 0, V.int 3, V.int 4, V.int 5])) sl3 (.lst [V.ref t3])) := (Evl.Ex.new ht3).trans (Evl.Ex.new hsl3)
    have st10 : SqT K (upd (upd H9 t3 (.tup [V.int 0, V.int 3, V.int 4, V.int 5])) sl3 (.lst [V.ref t3])) t3 (stopV (0, 3, 4, 5)) := Evl.ex_t (Evl.Ex.new hsl3) (SqT.of upd_same)
    have ss10 : SqL K (upd (upd H9 t3 (.tup [V.int 0, V.int 3, V.int 4, V.int 5])) sl3 (.lst [V.ref t3])) sl3 ([t3].map V.ref) := SqL.of upd_same
    generalize upd (upd H9 t3 (.tup [V.int 0, V.int 3, V.int 4, V.int 5])) sl3 (.lst [V.ref t3]) = H10 at e10 st10 ss10
    walk_at "go"
    refine ⟨stopsD [(0, 3, 4, 5)], stopsD [(0, 3, 4, 5)], stops_dp (Evl.ex_l e10 (SqL.of hl2)) (.cons (Evl.ex_t e10 st9) .nil), stops_dp ss10 (.cons st10 .nil), shaped_stops _, shaped_stops _, ?_⟩
    rw [eqv_self (shaped_stops _)]
    walk_at "go"
    refine ⟨x2, _, dx2, _, _, rfl, e10 _ _ hd2, T.cl_Day, T.na_Day_road, rfl, ?_⟩
    have hl10 := Evl.ex_l e10 hl9
    walk_at "go"
    intro t4 ht4
    have e11 : Ex H10 (upd H10 t4 (.tup [V.str "ring", V.int len])) := Evl.Ex.new ht4
    have st11 : SqT K (upd H10 t4 (.tup [V.str "ring", V.int len])) t4 [V.str "ring", V.int len] := SqT.of upd_same
    generalize upd H10 t4 (.tup [V.str "ring", V.int len]) = H11 at e11 st11
    walk_at "go"
    refine ⟨.tuple [.str "ring", .int len], .tuple [.str "ring", .int len], .tup (Evl.ex_t (e10.trans e11) sr9) (.cons (.str _) (.cons (.int _) .nil)), .tup st11 (.cons (.str _) (.cons (.int _) .nil)), road_shaped (Or.inr rfl), road_shaped (Or.inr rfl), ?_⟩
    rw [eqv_self (road_shaped (Or.inr rfl))]
    have hd11 := (e10.trans e11) _ _ hd2
    walk_at "go"
    refine ⟨x2, _, dx2, _, _, rfl, hd11, T.cl_Day, T.na_Day_home, rfl, ?_⟩
    walk_at "go"
    refine ⟨x2, _, dx2, _, _, rfl, hd11, T.cl_Day, T.na_Day_start, rfl, ?_⟩
    walk_at "go"
    obtain ⟨⟨dx3, k5⟩, k6, k7, k8⟩ := day9.ex (e10.trans e11)
    have hD11 := (e10.trans e11) _ _ hD9
    have hl11 := Evl.ex_l e11 hl10
    refine ⟨d, _, dx3, _, _, rfl, k5, T.cl_Day, T.na_Day_stops, rfl, ?_⟩
    walk_at "go"
    refine ⟨_, _, .type "list", .type "list", true, rfl, .ty _, .base (.lst k7), rfl, ?_⟩
    walk_at "go"
    refine ⟨d, _, dx3, _, _, rfl, k5, T.cl_Day, T.na_Day_stops, rfl, ?_⟩
    walk_at "go"
    refine ⟨stopsD sts, stopsD sts, stops_dp (SqL.of k7) k8, stops_dp (SqL.of hD11) k8, shaped_stops _, shaped_stops _, ?_⟩
    rw [eqv_self (shaped_stops _)]
    walk_at "go"
    refine ⟨d, _, dx3, _, _, rfl, k5, T.cl_Day, T.na_Day_road, rfl, ?_⟩
    walk_at "go"
    intro t5 ht5
    have e12 : Ex H11 (upd H11 t5 (.tup [V.str w', V.int len])) := Evl.Ex.new ht5
    have st12 : SqT K (upd H11 t5 (.tup [V.str w', V.int len])) t5 [V.str w', V.int len] := SqT.of upd_same
    generalize upd H11 t5 (.tup [V.str w', V.int len]) = H12 at e12 st12
    refine ⟨.tuple [.str w', .int len], .tuple [.str w', .int len], .tup (Evl.ex_t e12 k6) (.cons (.str _) (.cons (.int _) .nil)), .tup st12 (.cons (.str _) (.cons (.int _) .nil)), road_shaped g1.1, road_shaped g1.1, ?_⟩
    rw [eqv_self (road_shaped g1.1)]
    have k12 := e12 _ _ k5
    have hl12 := Evl.ex_l e12 hl11
    walk_at "go"
    refine ⟨d, _, dx3, _, _, rfl, k12, T.cl_Day, T.na_Day_home, rfl, ?_⟩
    walk_at "go"
    refine Or.inl ⟨_, rfl, true, rfl, iteT ?_⟩
    walk_at "go"
    refine ⟨d, _, dx3, _, _, rfl, k12, T.cl_Day, T.na_Day_home, rfl, ?_⟩
    walk_at "go"
    refine iteTb (decT rfl) ?_
    walk_at "go"
    refine ⟨d, _, dx3, _, _, rfl, k12, T.cl_Day, T.na_Day_start, rfl, ?_⟩
    walk_at "go"
    refine Or.inl ⟨_, rfl, true, rfl, iteT ?_⟩
    walk_at "go"
    refine ⟨d, _, dx3, _, _, rfl, k12, T.cl_Day, T.na_Day_start, rfl, ?_⟩
    walk_at "go"
    show Q (.bl (decide (V.int start = V.int start))) H12
    rw [decT rfl]
    exact q H12
end

/-! ### the head -/
def d_is_road : He.DefD := ⟨("is_road", none), "is_road", "is_road", defArgs s_is_road, defBody s_is_road, defScope s_is_road, [], []⟩
def d_has_place : He.DefD := ⟨("has_place", none), "has_place", "has_place", defArgs s_has_place, defBody s_has_place, defScope s_has_place, [], []⟩
def d_is_time : He.DefD := ⟨("is_time", none), "is_time", "is_time", defArgs s_is_time, defBody s_is_time, defScope s_is_time, [], []⟩
def d_check_stop : He.DefD := ⟨("check_stop", none), "check_stop", "check_stop", defArgs s_check_stop, defBody s_check_stop, defScope s_check_stop, [], []⟩
def d_check_day : He.DefD := ⟨("check_day", none), "check_day", "check_day", defArgs s_check_day, defBody s_check_day, defScope s_check_day, [], []⟩
def d_Day___init : He.DefD := ⟨("Day", some "__init__"), "__init__", "Day.__init__", defArgs s_Day___init, defBody s_Day___init, defScope s_Day___init, [], []⟩
def d_law_cell_at : He.DefD := ⟨("_law_cell_at", none), "_law_cell_at", "_law_cell_at", defArgs s_law_cell_at, defBody s_law_cell_at, defScope s_law_cell_at, [], []⟩
def d_law_wide : He.DefD := ⟨("_law_wide", none), "_law_wide", "_law_wide", defArgs s_law_wide, defBody s_law_wide, defScope s_law_wide, [], []⟩
def d_law_whole : He.DefD := ⟨("_law_whole", none), "_law_whole", "_law_whole", defArgs s_law_whole, defBody s_law_whole, defScope s_law_whole, [], []⟩
def d_law_road_by : He.DefD := ⟨("_law_road_by", none), "_law_road_by", "_law_road_by", defArgs s_law_road_by, defBody s_law_road_by, defScope s_law_road_by, [], []⟩
def d_law_places : He.DefD := ⟨("_law_places", none), "_law_places", "_law_places", defArgs s_law_places, defBody s_law_places, defScope s_law_places, [], []⟩
def d_law_place_by : He.DefD := ⟨("_law_place_by", none), "_law_place_by", "_law_place_by", defArgs s_law_place_by, defBody s_law_place_by, defScope s_law_place_by, [], []⟩
def d_law_start_by : He.DefD := ⟨("_law_start_by", none), "_law_start_by", "_law_start_by", defArgs s_law_start_by, defBody s_law_start_by, defScope s_law_start_by, [], []⟩
def d_law_stop_by : He.DefD := ⟨("_law_stop_by", none), "_law_stop_by", "_law_stop_by", defArgs s_law_stop_by, defBody s_law_stop_by, defScope s_law_stop_by, [], []⟩
def d_law_stops_by : He.DefD := ⟨("_law_stops_by", none), "_law_stops_by", "_law_stops_by", defArgs s_law_stops_by, defBody s_law_stops_by, defScope s_law_stops_by, [], []⟩
def d_law_raw_by : He.DefD := ⟨("_law_raw_by", none), "_law_raw_by", "_law_raw_by", defArgs s_law_raw_by, defBody s_law_raw_by, defScope s_law_raw_by, [], []⟩
def d_law_spoilt : He.DefD := ⟨("_law_spoilt", none), "_law_spoilt", "_law_spoilt", defArgs s_law_spoilt, defBody s_law_spoilt, defScope s_law_spoilt, [], []⟩
def d_law_off : He.DefD := ⟨("_law_off", none), "_law_off", "_law_off", defArgs s_law_off, defBody s_law_off, defScope s_law_off, [], []⟩
def d_law_late : He.DefD := ⟨("_law_late", none), "_law_late", "_law_late", defArgs s_law_late, defBody s_law_late, defScope s_law_late, [], []⟩
def d_law_due : He.DefD := ⟨("_law_due", none), "_law_due", "_law_due", defArgs s_law_due, defBody s_law_due, defScope s_law_due, [], []⟩
def d_law_made : He.DefD := ⟨("_law_made", none), "_law_made", "_law_made", defArgs s_law_made, defBody s_law_made, defScope s_law_made, [], []⟩
def d_law_based : He.DefD := ⟨("_law_based", none), "_law_based", "_law_based", defArgs s_law_based, defBody s_law_based, defScope s_law_based, [], []⟩
def d_law : He.DefD := ⟨("law", none), "law", "law", defArgs s_law, defBody s_law, defScope s_law, [], []⟩
def fn : List He.DefD := [d_is_road, d_has_place, d_is_time, d_check_stop, d_check_day, d_Day___init, d_law_cell_at, d_law_wide, d_law_whole, d_law_road_by, d_law_places, d_law_place_by, d_law_start_by, d_law_stop_by, d_law_stops_by, d_law_raw_by, d_law_spoilt, d_law_off, d_law_late, d_law_due, d_law_made, d_law_based, d_law]
abbrev fa : List He.Fa := [.glo "is_road", .glo "has_place", .glo "is_time", .glo "check_stop", .glo "check_day", .glo "_law_cell_at", .glo "_law_wide", .glo "_law_whole", .glo "_law_road_by", .glo "_law_places", .glo "_law_place_by", .glo "_law_start_by", .glo "_law_stop_by", .glo "_law_stops_by", .glo "_law_raw_by", .glo "_law_spoilt", .glo "_law_off", .glo "_law_late", .glo "_law_due", .glo "_law_made", .glo "_law_based", .glo "law", .glo "RouteError", .exc "RouteError", .glo "BadRoad", .exc "BadRoad", .glo "OffRoad", .exc "OffRoad", .glo "BadTime", .exc "BadTime", .glo "TooMany", .exc "TooMany", .glo "BadOrder", .exc "BadOrder", .glo "Missed", .exc "Missed", .glo "NoDay", .exc "NoDay", .glo "Day", .cls "Day", .mkr "Day", .noat "Day" "home", .noat "Day" "road", .noat "Day" "start", .noat "Day" "stops", .exm "OffRoad" "BadRoad" false, .exm "OffRoad" "OffRoad" true, .exm "OffRoad" "BadTime" false, .exm "OffRoad" "TooMany" false, .exm "OffRoad" "RouteError" true, .exm "BadTime" "BadRoad" false, .exm "BadTime" "OffRoad" false, .exm "BadTime" "BadTime" true, .exm "BadTime" "TooMany" false, .exm "BadTime" "RouteError" true, .exm "BadRoad" "BadRoad" true, .exm "BadRoad" "OffRoad" false, .exm "BadRoad" "BadTime" false, .exm "BadRoad" "TooMany" false, .exm "BadRoad" "RouteError" true, .exm "TooMany" "BadRoad" false, .exm "TooMany" "OffRoad" false, .exm "TooMany" "BadTime" false, .exm "TooMany" "TooMany" true, .exm "TooMany" "RouteError" true, .str "LINE" "line", .str "RING" "ring", .int "LONGEST" 1000000000, .int "LATEST" 1000000000000, .int "MOST_STOPS" 7, .free "min", .free "range", .free "list", .free "len", .free "isinstance", .free "int", .free "max", .free "bool", .free "ValueError"]
def exl (K : PySem.W.Frag) : List Bool := [excCB K (He.ga K "OffRoad"), excCB K (He.ga K "BadTime"), excCB K (He.ga K "BadRoad"), excCB K (He.ga K "TooMany"), decide (PySem.W.kitOne K (.ref (He.ga K "OffRoad")) (.ref (He.ga K "Day")) = some false), decide (PySem.W.kitOne K (.ref (He.ga K "OffRoad")) (.ref (He.ga K "BadRoad")) = some false), decide (PySem.W.kitOne K (.ref (He.ga K "OffRoad")) (.ref (He.ga K "OffRoad")) = some true), decide (PySem.W.kitOne K (.ref (He.ga K "OffRoad")) (.ref (He.ga K "BadTime")) = some false), decide (PySem.W.kitOne K (.ref (He.ga K "OffRoad")) (.type "ValueError") = some true), decide (PySem.W.kitOne K (.ref (He.ga K "OffRoad")) (.ref (He.ga K "TooMany")) = some false), decide (PySem.W.kitOne K (.ref (He.ga K "OffRoad")) (.ref (He.ga K "BadOrder")) = some false), decide (PySem.W.kitOne K (.ref (He.ga K "OffRoad")) (.ref (He.ga K "Missed")) = some false), decide (PySem.W.kitOne K (.ref (He.ga K "OffRoad")) (.ref (He.ga K "NoDay")) = some false), decide (PySem.W.kitOne K (.ref (He.ga K "BadTime")) (.ref (He.ga K "Day")) = some false), decide (PySem.W.kitOne K (.ref (He.ga K "BadTime")) (.ref (He.ga K "BadRoad")) = some false), decide (PySem.W.kitOne K (.ref (He.ga K "BadTime")) (.ref (He.ga K "OffRoad")) = some false), decide (PySem.W.kitOne K (.ref (He.ga K "BadTime")) (.ref (He.ga K "BadTime")) = some true), decide (PySem.W.kitOne K (.ref (He.ga K "BadTime")) (.type "ValueError") = some true), decide (PySem.W.kitOne K (.ref (He.ga K "BadTime")) (.ref (He.ga K "TooMany")) = some false), decide (PySem.W.kitOne K (.ref (He.ga K "BadTime")) (.ref (He.ga K "BadOrder")) = some false), decide (PySem.W.kitOne K (.ref (He.ga K "BadTime")) (.ref (He.ga K "Missed")) = some false), decide (PySem.W.kitOne K (.ref (He.ga K "BadTime")) (.ref (He.ga K "NoDay")) = some false), decide (PySem.W.kitOne K (.ref (He.ga K "BadRoad")) (.ref (He.ga K "Day")) = some false), decide (PySem.W.kitOne K (.ref (He.ga K "BadRoad")) (.ref (He.ga K "BadRoad")) = some true), decide (PySem.W.kitOne K (.ref (He.ga K "BadRoad")) (.ref (He.ga K "OffRoad")) = some false), decide (PySem.W.kitOne K (.ref (He.ga K "BadRoad")) (.ref (He.ga K "BadTime")) = some false), decide (PySem.W.kitOne K (.ref (He.ga K "BadRoad")) (.type "ValueError") = some true), decide (PySem.W.kitOne K (.ref (He.ga K "BadRoad")) (.ref (He.ga K "TooMany")) = some false), decide (PySem.W.kitOne K (.ref (He.ga K "BadRoad")) (.ref (He.ga K "BadOrder")) = some false), decide (PySem.W.kitOne K (.ref (He.ga K "BadRoad")) (.ref (He.ga K "Missed")) = some false), decide (PySem.W.kitOne K (.ref (He.ga K "BadRoad")) (.ref (He.ga K "NoDay")) = some false), decide (PySem.W.kitOne K (.ref (He.ga K "TooMany")) (.ref (He.ga K "Day")) = some false), decide (PySem.W.kitOne K (.ref (He.ga K "TooMany")) (.ref (He.ga K "BadRoad")) = some false), decide (PySem.W.kitOne K (.ref (He.ga K "TooMany")) (.ref (He.ga K "OffRoad")) = some false), decide (PySem.W.kitOne K (.ref (He.ga K "TooMany")) (.ref (He.ga K "BadTime")) = some false), decide (PySem.W.kitOne K (.ref (He.ga K "TooMany")) (.type "ValueError") = some true), decide (PySem.W.kitOne K (.ref (He.ga K "TooMany")) (.ref (He.ga K "TooMany")) = some true), decide (PySem.W.kitOne K (.ref (He.ga K "TooMany")) (.ref (He.ga K "BadOrder")) = some false), decide (PySem.W.kitOne K (.ref (He.ga K "TooMany")) (.ref (He.ga K "Missed")) = some false), decide (PySem.W.kitOne K (.ref (He.ga K "TooMany")) (.ref (He.ga K "NoDay")) = some false), insCB K (He.ga K "Day"), decide (PySem.W.kitOne K (.ref (He.ga K "Day")) (.ref (He.ga K "Day")) = some true), decide (PySem.W.kitOne K (.type "str") (.ref (He.ga K "Day")) = some false), decide (PySem.W.kitOne K (.type "NoneType") (.ref (He.ga K "Day")) = some false), decide (PySem.W.kitOne K (.type "bool") (.ref (He.ga K "Day")) = some false), decide (PySem.W.kitOne K (.type "int") (.ref (He.ga K "Day")) = some false)]
def ex (K : PySem.W.Frag) : Bool := (exl K).all id
theorem exAt {K : PySem.W.Frag} (h : ex K = true) (i : Nat) {b : Bool} (e : (exl K)[i]? = some b) : b = true := List.all_eq_true.mp h b (List.mem_of_getElem? e)
abbrev R : PySem.W.OpenRow := PySem.W.OpenLaw.row PySem.Challenge.rw_routevan_k03_days_refused
abbrev hk : PySem.W.Hook := He.hookX 6 fa fn [] [] ex
def ob (s : PySem.W.SharedT) : He.AlX := He.obsX 6 fa fn [] [] ex (HandSHeadRun.getT s)
theorem ob_eq (s : PySem.W.SharedT) : ob s = hk.obs s.abs := He.obsX_eq (HandSHeadRun.getT_eq s)
def names : List Str := [("RouteError" : Str), ("BadRoad" : Str), ("OffRoad" : Str), ("BadTime" : Str), ("TooMany" : Str), ("BadOrder" : Str), ("Missed" : Str), ("NoDay" : Str), ("LINE" : Str), ("RING" : Str), ("LONGEST" : Str), ("is_road" : Str), ("has_place" : Str), ("LATEST" : Str), ("MOST_STOPS" : Str), ("is_time" : Str), ("check_stop" : Str), ("check_day" : Str), ("Day" : Str), ("_law_cell_at" : Str), ("_law_wide" : Str), ("_law_whole" : Str), ("_law_road_by" : Str), ("_law_places" : Str), ("_law_place_by" : Str), ("_law_start_by" : Str), ("_law_stop_by" : Str), ("_law_stops_by" : Str), ("_law_raw_by" : Str), ("_law_spoilt" : Str), ("_law_off" : Str), ("_law_late" : Str), ("_law_due" : Str), ("_law_made" : Str), ("_law_based" : Str)]
theorem run (w : World) : HandSHeadRun.RunEq R (PySem.W.view R.prog [39]) hk ob 3000 names w := by
  intro os
  kernel_rfl
theorem facts {P : Program} {w : World} {K : PySem.W.Frag} {h : Heap} {mg : Str → Option Value} {f : Addr} (KX : K.In h) (G : h.Ns mainGlobals mg) (hfa : mg ("law" : Str) = some (.ref f)) (c : He.SaysD fa fn K) (hx : ex K = true) :
    ∃ fd : FuncData, (∀ (s : Shared) (v : Value), BindsTo s fd ⟨[v], []⟩ [("_law_script", v)]) ∧ ∀ base : Heap, K.In base → base.Ns mainGlobals mg → FnOk P w K mg base CX0 7 f fd ["_law_script"] (sp_law K) := by
  obtain ⟨fd0, F0⟩ := c.def_ 0 (d := d_is_road) rfl
  obtain ⟨fd1, F1⟩ := c.def_ 1 (d := d_has_place) rfl
  obtain ⟨fd2, F2⟩ := c.def_ 2 (d := d_is_time) rfl
  obtain ⟨fd3, F3⟩ := c.def_ 3 (d := d_check_stop) rfl
  obtain ⟨fd4, F4⟩ := c.def_ 4 (d := d_check_day) rfl
  obtain ⟨fd5, F5⟩ := c.def_ 5 (d := d_Day___init) rfl
  obtain ⟨fd6, F6⟩ := c.def_ 6 (d := d_law_cell_at) rfl
  obtain ⟨fd7, F7⟩ := c.def_ 7 (d := d_law_wide) rfl
  obtain ⟨fd8, F8⟩ := c.def_ 8 (d := d_law_whole) rfl
  obtain ⟨fd9, F9⟩ := c.def_ 9 (d := d_law_road_by) rfl
  obtain ⟨fd10, F10⟩ := c.def_ 10 (d := d_law_places) rfl
  obtain ⟨fd11, F11⟩ := c.def_ 11 (d := d_law_place_by) rfl
  obtain ⟨fd12, F12⟩ := c.def_ 12 (d := d_law_start_by) rfl
  obtain ⟨fd13, F13⟩ := c.def_ 13 (d := d_law_stop_by) rfl
  obtain ⟨fd14, F14⟩ := c.def_ 14 (d := d_law_stops_by) rfl
  obtain ⟨fd15, F15⟩ := c.def_ 15 (d := d_law_raw_by) rfl
  obtain ⟨fd16, F16⟩ := c.def_ 16 (d := d_law_spoilt) rfl
  obtain ⟨fd17, F17⟩ := c.def_ 17 (d := d_law_off) rfl
  obtain ⟨fd18, F18⟩ := c.def_ 18 (d := d_law_late) rfl
  obtain ⟨fd19, F19⟩ := c.def_ 19 (d := d_law_due) rfl
  obtain ⟨fd20, F20⟩ := c.def_ 20 (d := d_law_made) rfl
  obtain ⟨fd21, F21⟩ := c.def_ 21 (d := d_law_based) rfl
  obtain ⟨fd22, F22⟩ := c.def_ 22 (d := d_law) rfl
  let D : Str → FuncData := fun x => ([(("is_road" : Str), fd0), (("has_place" : Str), fd1), (("is_time" : Str), fd2), (("check_stop" : Str), fd3), (("check_day" : Str), fd4), (("Day.__init__" : Str), fd5), (("_law_cell_at" : Str), fd6), (("_law_wide" : Str), fd7), (("_law_whole" : Str), fd8), (("_law_road_by" : Str), fd9), (("_law_places" : Str), fd10), (("_law_place_by" : Str), fd11), (("_law_start_by" : Str), fd12), (("_law_stop_by" : Str), fd13), (("_law_stops_by" : Str), fd14), (("_law_raw_by" : Str), fd15), (("_law_spoilt" : Str), fd16), (("_law_off" : Str), fd17), (("_law_late" : Str), fd18), (("_law_due" : Str), fd19), (("_law_made" : Str), fd20), (("_law_based" : Str), fd21), (("law" : Str), fd22)].lookup x).getD fd22
  have T : Txt K mg D := {
    F_is_road := F0,
    m_is_road := He.glo_ok KX G (c.fact 0 (f := (.glo "is_road")) rfl),
    b_is_road := F0.bindsN fun _ _ _ _ _ _ us hl => match us, hl with | [_], _ => rfl,
    F_has_place := F1,
    m_has_place := He.glo_ok KX G (c.fact 1 (f := (.glo "has_place")) rfl),
    b_has_place := F1.bindsN fun _ _ _ _ _ _ us hl => match us, hl with | [_, _], _ => rfl,
    F_is_time := F2,
    m_is_time := He.glo_ok KX G (c.fact 2 (f := (.glo "is_time")) rfl),
    b_is_time := F2.bindsN fun _ _ _ _ _ _ us hl => match us, hl with | [_], _ => rfl,
    F_check_stop := F3,
    m_check_stop := He.glo_ok KX G (c.fact 3 (f := (.glo "check_stop")) rfl),
    b_check_stop := F3.bindsN fun _ _ _ _ _ _ us hl => match us, hl with | [_, _], _ => rfl,
    F_check_day := F4,
    m_check_day := He.glo_ok KX G (c.fact 4 (f := (.glo "check_day")) rfl),
    b_check_day := F4.bindsN fun _ _ _ _ _ _ us hl => match us, hl with | [_, _, _, _], _ => rfl,
    F_Day___init := F5,
    b_Day___init := F5.bindsN fun _ _ _ _ _ _ us hl => match us, hl with | [_, _, _, _, _], _ => rfl,
    F_law_cell_at := F6,
    m_law_cell_at := He.glo_ok KX G (c.fact 5 (f := (.glo "_law_cell_at")) rfl),
    b_law_cell_at := F6.bindsN fun _ _ _ _ _ _ us hl => match us, hl with | [_, _], _ => rfl,
    F_law_wide := F7,
    m_law_wide := He.glo_ok KX G (c.fact 6 (f := (.glo "_law_wide")) rfl),
    b_law_wide := F7.bindsN fun _ _ _ _ _ _ us hl => match us, hl with | [_, _], _ => rfl,
    F_law_whole := F8,
    m_law_whole := He.glo_ok KX G (c.fact 7 (f := (.glo "_law_whole")) rfl),
    b_law_whole := F8.bindsN fun _ _ _ _ _ _ us hl => match us, hl with | [_], _ => rfl,
    F_law_road_by := F9,
    m_law_road_by := He.glo_ok KX G (c.fact 8 (f := (.glo "_law_road_by")) rfl),
    b_law_road_by := F9.bindsN fun _ _ _ _ _ _ us hl => match us, hl with | [_], _ => rfl,
    F_law_places := F10,
    m_law_places := He.glo_ok KX G (c.fact 9 (f := (.glo "_law_places")) rfl),
    b_law_places := F10.bindsN fun _ _ _ _ _ _ us hl => match us, hl with | [_], _ => rfl,
    F_law_place_by := F11,
    m_law_place_by := He.glo_ok KX G (c.fact 10 (f := (.glo "_law_place_by")) rfl),
    b_law_place_by := F11.bindsN fun _ _ _ _ _ _ us hl => match us, hl with | [_, _], _ => rfl,
    F_law_start_by := F12,
    m_law_start_by := He.glo_ok KX G (c.fact 11 (f := (.glo "_law_start_by")) rfl),
    b_law_start_by := F12.bindsN fun _ _ _ _ _ _ us hl => match us, hl with | [_, _], _ => rfl,
    F_law_stop_by := F13,
    m_law_stop_by := He.glo_ok KX G (c.fact 12 (f := (.glo "_law_stop_by")) rfl),
    b_law_stop_by := F13.bindsN fun _ _ _ _ _ _ us hl => match us, hl with | [_, _, _, _], _ => rfl,
    F_law_stops_by := F14,
    m_law_stops_by := He.glo_ok KX G (c.fact 13 (f := (.glo "_law_stops_by")) rfl),
    b_law_stops_by := F14.bindsN fun _ _ _ _ _ _ us hl => match us, hl with | [_, _, _, _], _ => rfl,
    F_law_raw_by := F15,
    m_law_raw_by := He.glo_ok KX G (c.fact 14 (f := (.glo "_law_raw_by")) rfl),
    b_law_raw_by := F15.bindsN fun _ _ _ _ _ _ us hl => match us, hl with | [_], _ => rfl,
    F_law_spoilt := F16,
    m_law_spoilt := He.glo_ok KX G (c.fact 15 (f := (.glo "_law_spoilt")) rfl),
    b_law_spoilt := F16.bindsN fun _ _ _ _ _ _ us hl => match us, hl with | [_, _, _], _ => rfl,
    F_law_off := F17,
    m_law_off := He.glo_ok KX G (c.fact 16 (f := (.glo "_law_off")) rfl),
    b_law_off := F17.bindsN fun _ _ _ _ _ _ us hl => match us, hl with | [_, _], _ => rfl,
    F_law_late := F18,
    m_law_late := He.glo_ok KX G (c.fact 17 (f := (.glo "_law_late")) rfl),
    b_law_late := F18.bindsN fun _ _ _ _ _ _ us hl => match us, hl with | [_], _ => rfl,
    F_law_due := F19,
    m_law_due := He.glo_ok KX G (c.fact 18 (f := (.glo "_law_due")) rfl),
    b_law_due := F19.bindsN fun _ _ _ _ _ _ us hl => match us, hl with | [_], _ => rfl,
    F_law_made := F20,
    m_law_made := He.glo_ok KX G (c.fact 19 (f := (.glo "_law_made")) rfl),
    b_law_made := F20.bindsN fun _ _ _ _ _ _ us hl => match us, hl with | [_, _], _ => rfl,
    F_law_based := F21,
    m_law_based := He.glo_ok KX G (c.fact 20 (f := (.glo "_law_based")) rfl),
    b_law_based := F21.bindsN fun _ _ _ _ _ _ us hl => match us, hl with | [_, _], _ => rfl,
    F_law := F22,
    m_law := He.glo_ok KX G (c.fact 21 (f := (.glo "law")) rfl),
    b_law := F22.bindsN fun _ _ _ _ _ _ us hl => match us, hl with | [_], _ => rfl,
    m_RouteError := He.glo_ok KX G (c.fact 22 (f := (.glo "RouteError")) rfl),
    x_RouteError := (He.exc_ok (c.fact 23 (f := (.exc "RouteError")) rfl)).1,
    kp_RouteError := (He.exc_ok (c.fact 23 (f := (.exc "RouteError")) rfl)).2.1,
    sb_RouteError := (He.exc_ok (c.fact 23 (f := (.exc "RouteError")) rfl)).2.2.1,
    ty_RouteError := (He.exc_ok (c.fact 23 (f := (.exc "RouteError")) rfl)).2.2.2,
    m_BadRoad := He.glo_ok KX G (c.fact 24 (f := (.glo "BadRoad")) rfl),
    x_BadRoad := (He.exc_ok (c.fact 25 (f := (.exc "BadRoad")) rfl)).1,
    kp_BadRoad := (He.exc_ok (c.fact 25 (f := (.exc "BadRoad")) rfl)).2.1,
    sb_BadRoad := (He.exc_ok (c.fact 25 (f := (.exc "BadRoad")) rfl)).2.2.1,
    ty_BadRoad := (He.exc_ok (c.fact 25 (f := (.exc "BadRoad")) rfl)).2.2.2,
    m_OffRoad := He.glo_ok KX G (c.fact 26 (f := (.glo "OffRoad")) rfl),
    x_OffRoad := (He.exc_ok (c.fact 27 (f := (.exc "OffRoad")) rfl)).1,
    kp_OffRoad := (He.exc_ok (c.fact 27 (f := (.exc "OffRoad")) rfl)).2.1,
    sb_OffRoad := (He.exc_ok (c.fact 27 (f := (.exc "OffRoad")) rfl)).2.2.1,
    ty_OffRoad := (He.exc_ok (c.fact 27 (f := (.exc "OffRoad")) rfl)).2.2.2,
    m_BadTime := He.glo_ok KX G (c.fact 28 (f := (.glo "BadTime")) rfl),
    x_BadTime := (He.exc_ok (c.fact 29 (f := (.exc "BadTime")) rfl)).1,
    kp_BadTime := (He.exc_ok (c.fact 29 (f := (.exc "BadTime")) rfl)).2.1,
    sb_BadTime := (He.exc_ok (c.fact 29 (f := (.exc "BadTime")) rfl)).2.2.1,
    ty_BadTime := (He.exc_ok (c.fact 29 (f := (.exc "BadTime")) rfl)).2.2.2,
    m_TooMany := He.glo_ok KX G (c.fact 30 (f := (.glo "TooMany")) rfl),
    x_TooMany := (He.exc_ok (c.fact 31 (f := (.exc "TooMany")) rfl)).1,
    kp_TooMany := (He.exc_ok (c.fact 31 (f := (.exc "TooMany")) rfl)).2.1,
    sb_TooMany := (He.exc_ok (c.fact 31 (f := (.exc "TooMany")) rfl)).2.2.1,
    ty_TooMany := (He.exc_ok (c.fact 31 (f := (.exc "TooMany")) rfl)).2.2.2,
    m_BadOrder := He.glo_ok KX G (c.fact 32 (f := (.glo "BadOrder")) rfl),
    x_BadOrder := (He.exc_ok (c.fact 33 (f := (.exc "BadOrder")) rfl)).1,
    kp_BadOrder := (He.exc_ok (c.fact 33 (f := (.exc "BadOrder")) rfl)).2.1,
    sb_BadOrder := (He.exc_ok (c.fact 33 (f := (.exc "BadOrder")) rfl)).2.2.1,
    ty_BadOrder := (He.exc_ok (c.fact 33 (f := (.exc "BadOrder")) rfl)).2.2.2,
    m_Missed := He.glo_ok KX G (c.fact 34 (f := (.glo "Missed")) rfl),
    x_Missed := (He.exc_ok (c.fact 35 (f := (.exc "Missed")) rfl)).1,
    kp_Missed := (He.exc_ok (c.fact 35 (f := (.exc "Missed")) rfl)).2.1,
    sb_Missed := (He.exc_ok (c.fact 35 (f := (.exc "Missed")) rfl)).2.2.1,
    ty_Missed := (He.exc_ok (c.fact 35 (f := (.exc "Missed")) rfl)).2.2.2,
    m_NoDay := He.glo_ok KX G (c.fact 36 (f := (.glo "NoDay")) rfl),
    x_NoDay := (He.exc_ok (c.fact 37 (f := (.exc "NoDay")) rfl)).1,
    kp_NoDay := (He.exc_ok (c.fact 37 (f := (.exc "NoDay")) rfl)).2.1,
    sb_NoDay := (He.exc_ok (c.fact 37 (f := (.exc "NoDay")) rfl)).2.2.1,
    ty_NoDay := (He.exc_ok (c.fact 37 (f := (.exc "NoDay")) rfl)).2.2.2,
    m_Day := He.glo_ok KX G (c.fact 38 (f := (.glo "Day")) rfl),
    cl_Day := He.cls_ok (c.fact 39 (f := (.cls "Day")) rfl),
    k_Day := He.mkr_ok (c.fact 40 (f := (.mkr "Day")) rfl),
    na_Day_home := He.noat_ok (c.fact 41 (f := (.noat "Day" "home")) rfl),
    na_Day_road := He.noat_ok (c.fact 42 (f := (.noat "Day" "road")) rfl),
    na_Day_start := He.noat_ok (c.fact 43 (f := (.noat "Day" "start")) rfl),
    na_Day_stops := He.noat_ok (c.fact 44 (f := (.noat "Day" "stops")) rfl),
    e_OffRoad_BadRoad := He.exm_ok (c.fact 45 (f := (.exm "OffRoad" "BadRoad" false)) rfl),
    e_OffRoad_OffRoad := He.exm_ok (c.fact 46 (f := (.exm "OffRoad" "OffRoad" true)) rfl),
    e_OffRoad_BadTime := He.exm_ok (c.fact 47 (f := (.exm "OffRoad" "BadTime" false)) rfl),
    e_OffRoad_TooMany := He.exm_ok (c.fact 48 (f := (.exm "OffRoad" "TooMany" false)) rfl),
    e_OffRoad_RouteError := He.exm_ok (c.fact 49 (f := (.exm "OffRoad" "RouteError" true)) rfl),
    e_BadTime_BadRoad := He.exm_ok (c.fact 50 (f := (.exm "BadTime" "BadRoad" false)) rfl),
    e_BadTime_OffRoad := He.exm_ok (c.fact 51 (f := (.exm "BadTime" "OffRoad" false)) rfl),
    e_BadTime_BadTime := He.exm_ok (c.fact 52 (f := (.exm "BadTime" "BadTime" true)) rfl),
    e_BadTime_TooMany := He.exm_ok (c.fact 53 (f := (.exm "BadTime" "TooMany" false)) rfl),
    e_BadTime_RouteError := He.exm_ok (c.fact 54 (f := (.exm "BadTime" "RouteError" true)) rfl),
    e_BadRoad_BadRoad := He.exm_ok (c.fact 55 (f := (.exm "BadRoad" "BadRoad" true)) rfl),
    e_BadRoad_OffRoad := He.exm_ok (c.fact 56 (f := (.exm "BadRoad" "OffRoad" false)) rfl),
    e_BadRoad_BadTime := He.exm_ok (c.fact 57 (f := (.exm "BadRoad" "BadTime" false)) rfl),
    e_BadRoad_TooMany := He.exm_ok (c.fact 58 (f := (.exm "BadRoad" "TooMany" false)) rfl),
    e_BadRoad_RouteError := He.exm_ok (c.fact 59 (f := (.exm "BadRoad" "RouteError" true)) rfl),
    e_TooMany_BadRoad := He.exm_ok (c.fact 60 (f := (.exm "TooMany" "BadRoad" false)) rfl),
    e_TooMany_OffRoad := He.exm_ok (c.fact 61 (f := (.exm "TooMany" "OffRoad" false)) rfl),
    e_TooMany_BadTime := He.exm_ok (c.fact 62 (f := (.exm "TooMany" "BadTime" false)) rfl),
    e_TooMany_TooMany := He.exm_ok (c.fact 63 (f := (.exm "TooMany" "TooMany" true)) rfl),
    e_TooMany_RouteError := He.exm_ok (c.fact 64 (f := (.exm "TooMany" "RouteError" true)) rfl),
    c_LINE := (fun ⟨t, e⟩ => ⟨_, e, t, rfl⟩) (He.str_ok KX G (c.fact 65 (f := (.str "LINE" "line")) rfl)),
    c_RING := (fun ⟨t, e⟩ => ⟨_, e, t, rfl⟩) (He.str_ok KX G (c.fact 66 (f := (.str "RING" "ring")) rfl)),
    c_LONGEST := (fun ⟨t, e⟩ => ⟨_, e, t, rfl⟩) (He.int_ok KX G (c.fact 67 (f := (.int "LONGEST" 1000000000)) rfl)),
    c_LATEST := (fun ⟨t, e⟩ => ⟨_, e, t, rfl⟩) (He.int_ok KX G (c.fact 68 (f := (.int "LATEST" 1000000000000)) rfl)),
    c_MOST_STOPS := (fun ⟨t, e⟩ => ⟨_, e, t, rfl⟩) (He.int_ok KX G (c.fact 69 (f := (.int "MOST_STOPS" 7)) rfl)),
    m_min := He.free_ok KX G (c.fact 70 (f := (.free "min")) rfl),
    m_range := He.free_ok KX G (c.fact 71 (f := (.free "range")) rfl),
    m_list := He.free_ok KX G (c.fact 72 (f := (.free "list")) rfl),
    m_len := He.free_ok KX G (c.fact 73 (f := (.free "len")) rfl),
    m_isinstance := He.free_ok KX G (c.fact 74 (f := (.free "isinstance")) rfl),
    m_int := He.free_ok KX G (c.fact 75 (f := (.free "int")) rfl),
    m_max := He.free_ok KX G (c.fact 76 (f := (.free "max")) rfl),
    m_bool := He.free_ok KX G (c.fact 77 (f := (.free "bool")) rfl),
    m_ValueError := He.free_ok KX G (c.fact 78 (f := (.free "ValueError")) rfl),
    ec_OffRoad := excCB_ok (exAt hx 0 rfl),
    ec_BadTime := excCB_ok (exAt hx 1 rfl),
    ec_BadRoad := excCB_ok (exAt hx 2 rfl),
    ec_TooMany := excCB_ok (exAt hx 3 rfl),
    is_OffRoad_Day := of_decide_eq_true (exAt hx 4 rfl),
    is_OffRoad_BadRoad := of_decide_eq_true (exAt hx 5 rfl),
    is_OffRoad_OffRoad := of_decide_eq_true (exAt hx 6 rfl),
    is_OffRoad_BadTime := of_decide_eq_true (exAt hx 7 rfl),
    is_OffRoad_ValueError := of_decide_eq_true (exAt hx 8 rfl),
    is_OffRoad_TooMany := of_decide_eq_true (exAt hx 9 rfl),
    is_OffRoad_BadOrder := of_decide_eq_true (exAt hx 10 rfl),
    is_OffRoad_Missed := of_decide_eq_true (exAt hx 11 rfl),
    is_OffRoad_NoDay := of_decide_eq_true (exAt hx 12 rfl),
    is_BadTime_Day := of_decide_eq_true (exAt hx 13 rfl),
    is_BadTime_BadRoad := of_decide_eq_true (exAt hx 14 rfl),
    is_BadTime_OffRoad := of_decide_eq_true (exAt hx 15 rfl),
    is_BadTime_BadTime := of_decide_eq_true (exAt hx 16 rfl),
    is_BadTime_ValueError := of_decide_eq_true (exAt hx 17 rfl),
    is_BadTime_TooMany := of_decide_eq_true (exAt hx 18 rfl),
    is_BadTime_BadOrder := of_decide_eq_true (exAt hx 19 rfl),
    is_BadTime_Missed := of_decide_eq_true (exAt hx 20 rfl),
    is_BadTime_NoDay := of_decide_eq_true (exAt hx 21 rfl),
    is_BadRoad_Day := of_decide_eq_true (exAt hx 22 rfl),
    is_BadRoad_BadRoad := of_decide_eq_true (exAt hx 23 rfl),
    is_BadRoad_OffRoad := of_decide_eq_true (exAt hx 24 rfl),
    is_BadRoad_BadTime := of_decide_eq_true (exAt hx 25 rfl),
    is_BadRoad_ValueError := of_decide_eq_true (exAt hx 26 rfl),
    is_BadRoad_TooMany := of_decide_eq_true (exAt hx 27 rfl),
    is_BadRoad_BadOrder := of_decide_eq_true (exAt hx 28 rfl),
    is_BadRoad_Missed := of_decide_eq_true (exAt hx 29 rfl),
    is_BadRoad_NoDay := of_decide_eq_true (exAt hx 30 rfl),
    is_TooMany_Day := of_decide_eq_true (exAt hx 31 rfl),
    is_TooMany_BadRoad := of_decide_eq_true (exAt hx 32 rfl),
    is_TooMany_OffRoad := of_decide_eq_true (exAt hx 33 rfl),
    is_TooMany_BadTime := of_decide_eq_true (exAt hx 34 rfl),
    is_TooMany_ValueError := of_decide_eq_true (exAt hx 35 rfl),
    is_TooMany_TooMany := of_decide_eq_true (exAt hx 36 rfl),
    is_TooMany_BadOrder := of_decide_eq_true (exAt hx 37 rfl),
    is_TooMany_Missed := of_decide_eq_true (exAt hx 38 rfl),
    is_TooMany_NoDay := of_decide_eq_true (exAt hx 39 rfl),
    iy_Day := insCB_ok (exAt hx 40 rfl),
    iz_Day := of_decide_eq_true (exAt hx 41 rfl),
    iz_str_Day := of_decide_eq_true (exAt hx 42 rfl),
    iz_NoneType_Day := of_decide_eq_true (exAt hx 43 rfl),
    iz_bool_Day := of_decide_eq_true (exAt hx 44 rfl),
    iz_int_Day := of_decide_eq_true (exAt hx 45 rfl)
  }
  have e := hfa.symm.trans T.m_law
  cases e
  have b := FunD.bindsA (ps := ["_law_script"]) F22 fun _ _ _ _ _ _ us hl => match us, hl with | [_], _ => rfl
  exact ⟨fd22, fun s v => b s [v] rfl, fun base _ _ => ok_law T⟩
end RV
open PySem PySem.W PySem.Calls PyProof.Rows
set_option maxRecDepth 100000 in
set_option maxHeartbeats 0 in
theorem PySem.Challenge.cw_routevan_k03_days_refused_holds : PySem.Challenge.rw_routevan_k03_days_refused.Holds := by
  w_on; o_law
  refine HandSHeadRun.head_any (r := OpenLaw.row PySem.Challenge.rw_routevan_k03_days_refused) (q := view (OpenLaw.row PySem.Challenge.rw_routevan_k03_days_refused).prog [39]) (H := RV.hk) (ob := RV.ob) (M := 3000) (loose := RV.names) (d := HandSHeadRun.topDef (OpenLaw.row PySem.Challenge.rw_routevan_k03_days_refused).prog 39) (kwd := []) RV.ob_eq
    (by kernel_rfl) (fun s => by kernel_rfl) RV.run (by kernel_rfl) (by kernel_rfl) (by kernel_rfl) (by rfl) (by first | assumption | decide +kernel) (by decide +kernel) ⟨rfl, rfl, rfl, rfl, rfl, by decide +kernel⟩ ?hw ?hc
  case hw => w_witness2
  case hc =>
    refine L2.walk_ofE (l := PySem.Challenge.rw_routevan_k03_days_refused) (n := 63) (k := 7) (x := "_law_script") (CX := L2.CX0) rfl (by decide) (by kernel_rfl) ⟨rfl, by decide, by decide⟩ ?F (fun _ _ _ _ z => z)
    intro w mg fa h Y G hmg0
    obtain ⟨K, KX, c⟩ := Y
    have hmg : mg ("law" : PySem.Str) = some (.ref fa) := by
      have e : (HandSHeadRun.topDef (OpenLaw.row PySem.Challenge.rw_routevan_k03_days_refused).prog 39).name = ("law" : PySem.Str) := by kernel_rfl
      rw [← e]
      exact hmg0
    obtain ⟨fd, hb, hF⟩ := RV.facts (P := (PySem.Challenge.rw_routevan_k03_days_refused).prog) (w := w) KX G hmg c.t.d c.more
    exact ⟨K, fd, RV.sp_law K, KX, hb, fun H a ns hl _ hS => ⟨a, ns, rfl, hS, hl, fun _ => rfl⟩, hF⟩

