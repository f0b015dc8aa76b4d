import PyProof.Rows.All
import Wide.All
import OpenK.AllK
import Wide.FinOn
import KE.KStateDown
import Lean
import HandS.ForMost
import HandS.ForExc
import HandS.More
import HandS.Defaults
import HandS.IsInst
import HandS.ExcIs
import HandS.TryMany
import HandS.Evl
import HandS.Steps
import HandS.Style
import HandS.SetFor
import HandS.Strs
import HandS.Zip
import HandS.Conv
import HandS.Deep
import HandS.Head0
import HandS.Head1
import HandS.Head2
import HandS.HeadEnd
import HandS.HeadHook1
import HandS.HeadHook2
import HandS.HeadHook3
import HandS.HeadHook4
import HandS.HeadWalk
import HandS.TupLen
import HandS.SortKw
import HandS.Walk
import KE.KDictKeyed
import KE.KDictWalk
import KE.KEqDict
import PySem.Challenge.RW_routevan_k02_ways_lead
set_option Elab.async false
set_option linter.all false
set_option maxRecDepth 100000
set_option maxHeartbeats 2000000
local macro_rules | `(tactic| walk_at "side") => `(tactic| first | decide | omega | assumption | exact ⟨by decide, by decide⟩ | exact Or.inr ⟨by decide, by decide⟩ | exact Or.inl ⟨by decide, by decide⟩ | exact ⟨by omega, by omega⟩ | exact Evl.sz_of (Nat.le_of_ble_eq_true rfl))
local macro_rules | `(tactic| walk_at "seq") => `(tactic| first | assumption | exact L2.SqT.of (by assumption) | exact L2.SqL.of (by assumption))
local macro_rules | `(tactic| walk_at "go") => `(tactic| repeat (first
  | refine ⟨_, rfl, ?_⟩
  | refine ⟨_, _, rfl, rfl, ?_⟩
  | refine ⟨_, _, rfl, ?_⟩
  | refine ⟨rfl, ?_⟩
  | refine And.intro (by walk_at "side") ?_
  | refine ⟨_, _, _, _, rfl, rfl, (by walk_at "seq"), rfl, ?_⟩
  | refine ⟨_, _, rfl, Or.inl (by walk_at "seq"), ?_⟩
  | refine ⟨_, _, rfl, Or.inr (by walk_at "seq"), ?_⟩
  | refine ⟨_, _, rfl, (by walk_at "seq"), rfl, ?_⟩
  | refine ⟨_, _, _, _, rfl, rfl, (by walk_at "seq"), (by assumption), ?_⟩
  | refine ⟨_, _, rfl, (by walk_at "seq"), ?_⟩
  | refine ⟨_, _, _, rfl, (fun u e => e), (by assumption), ?_⟩))
namespace RV
open PySem PySem.Spec PyProof.Rows L2
open Evl (Ex)

/-! ### the text by places -/
def top (i : Nat) : Stmt := PySem.Challenge.pw_routevan_k02_ways_lead.main.body.getD i (.Pass ⟨0, 0, 0, 0⟩)
abbrev s_has_place : Stmt := top 6
abbrev N_has_place : List Str := ["road", "place", "word", "length"]
theorem sc_has_place : FnScope N_has_place ["road", "place"] (defScope s_has_place) := ⟨rfl, rfl, rfl, by decide +kernel, rfl, by decide +kernel, by decide +kernel⟩
abbrev s_way : Stmt := top 7
abbrev N_way : List Str := ["road", "one", "other", "word", "length", "up"]
theorem sc_way : FnScope N_way ["road", "one", "other"] (defScope s_way) := ⟨rfl, rfl, rfl, by decide +kernel, rfl, by decide +kernel, by decide +kernel⟩
abbrev s_moved : Stmt := top 8
abbrev N_moved : List Str := ["road", "place", "by", "word", "length", "there"]
theorem sc_moved : FnScope N_moved ["road", "place", "by"] (defScope s_moved) := ⟨rfl, rfl, rfl, by decide +kernel, rfl, by decide +kernel, by decide +kernel⟩
abbrev s_law_cell_at : Stmt := top 10
abbrev N_law_cell_at : List Str := ["_law_script", "_law_k"]
theorem sc_law_cell_at : FnScope N_law_cell_at ["_law_script", "_law_k"] (defScope s_law_cell_at) := ⟨rfl, rfl, rfl, by decide +kernel, rfl, by decide +kernel, by decide +kernel⟩
abbrev s_law_wide : Stmt := top 11
abbrev N_law_wide : List Str := ["_law_cell", "_law_bound"]
theorem sc_law_wide : FnScope N_law_wide ["_law_cell", "_law_bound"] (defScope s_law_wide) := ⟨rfl, rfl, rfl, by decide +kernel, rfl, by decide +kernel, by decide +kernel⟩
abbrev s_law_whole : Stmt := top 12
abbrev N_law_whole : List Str := ["_law_found"]
theorem sc_law_whole : FnScope N_law_whole ["_law_found"] (defScope s_law_whole) := ⟨rfl, rfl, rfl, by decide +kernel, rfl, by decide +kernel, by decide +kernel⟩
abbrev s_law_road_by : Stmt := top 13
abbrev N_law_road_by : List Str := ["_law_cell", "_law_length"]
theorem sc_law_road_by : FnScope N_law_road_by ["_law_cell"] (defScope s_law_road_by) := ⟨rfl, rfl, rfl, by decide +kernel, rfl, by decide +kernel, by decide +kernel⟩
abbrev s_law_places : Stmt := top 14
abbrev N_law_places : List Str := ["_law_road"]
theorem sc_law_places : FnScope N_law_places ["_law_road"] (defScope s_law_places) := ⟨rfl, rfl, rfl, by decide +kernel, rfl, by decide +kernel, by decide +kernel⟩
abbrev s_law_place_by : Stmt := top 15
abbrev N_law_place_by : List Str := ["_law_road", "_law_cell", "_law_many"]
theorem sc_law_place_by : FnScope N_law_place_by ["_law_road", "_law_cell"] (defScope s_law_place_by) := ⟨rfl, rfl, rfl, by decide +kernel, rfl, by decide +kernel, by decide +kernel⟩
abbrev s_law_across : Stmt := top 16
abbrev N_law_across : List Str := ["_law_road", "_law_one", "_law_other", "_law_cell"]
theorem sc_law_across : FnScope N_law_across ["_law_road", "_law_one", "_law_other", "_law_cell"] (defScope s_law_across) := ⟨rfl, rfl, rfl, by decide +kernel, rfl, by decide +kernel, by decide +kernel⟩
abbrev s_law_way : Stmt := top 17
abbrev N_law_way : List Str := ["_law_road", "_law_one", "_law_other", "_law_gap"]
theorem sc_law_way : FnScope N_law_way ["_law_road", "_law_one", "_law_other"] (defScope s_law_way) := ⟨rfl, rfl, rfl, by decide +kernel, rfl, by decide +kernel, by decide +kernel⟩
abbrev s_law_steps : Stmt := top 18
abbrev N_law_steps : List Str := ["_law_cell"]
theorem sc_law_steps : FnScope N_law_steps ["_law_cell"] (defScope s_law_steps) := ⟨rfl, rfl, rfl, by decide +kernel, rfl, by decide +kernel, by decide +kernel⟩
abbrev s_law_moved_by_class : Stmt := top 19
abbrev N_law_moved_by_class : List Str := ["_law_road", "_law_place", "_law_by"]
theorem sc_law_moved_by_class : FnScope N_law_moved_by_class ["_law_road", "_law_place", "_law_by"] (defScope s_law_moved_by_class) := ⟨rfl, rfl, rfl, by decide +kernel, rfl, by decide +kernel, by decide +kernel⟩
abbrev s_law_moved_by_base : Stmt := top 20
abbrev N_law_moved_by_base : List Str := ["_law_road", "_law_place", "_law_by", "error"]
theorem sc_law_moved_by_base : FnScope N_law_moved_by_base ["_law_road", "_law_place", "_law_by"] (defScope s_law_moved_by_base) := ⟨rfl, rfl, rfl, by decide +kernel, rfl, by decide +kernel, by decide +kernel⟩
abbrev s_law : Stmt := top 21
abbrev N_law : List Str := ["_law_script", "_law_road", "_law_one", "_law_other", "_law_found", "_law_by", "_law_due", "_law_again"]
theorem sc_law : FnScope N_law ["_law_script"] (defScope s_law) := ⟨rfl, rfl, rfl, by decide +kernel, rfl, by decide +kernel, by decide +kernel⟩
/-! ### words of our own -/
section
variable {X : Cx}
theorem pe_globE {x : Str} {v : V} {pos : Pos} (hg : Gl X x) (h : ∃ u, X.mg x = some u ∧ RelV v u) (hd : (x == ("__debug__" : Str)) = false := by decide) : PE X (.Name x pos) (tC v) := by
  obtain ⟨u, hm, r⟩ := h
  exact pe_glob hg hm r hd
end
theorem pe_eq {X : Cx} {e : Expr} {t t' : TE} (h : PE X e t) (q : t = t') : PE X e t' := q ▸ h
theorem pts_eq {X : Cx} {e : List Expr} {t t' : TT} (h : PTs X e t) (q : t = t') : PTs X e t' := q ▸ h
theorem pss_eq {X : Cx} {st : List Stmt} {t t' : TS} (h : PSs X st t) (e : t = t') : PSs X st t' := e ▸ h
theorem sizeOk {n : Nat} (h : n ≤ 100000) : n ≤ sizeLine := Evl.sz_of h
theorem szl {α : Type} {xs : List α} (h : Nat.ble xs.length 100000 = true := by rfl) : xs.length ≤ sizeLine := sizeOk (Nat.le_of_ble_eq_true h)
/-- a test's two ways -/
theorem iteB {b : Bool} {A B : Prop} (h1 : b = true → A) (h2 : b = false → B) : if b = true then A else B := by
  cases b with
  | true => exact h1 rfl
  | false => exact h2 rfl
theorem iteFb {b : Bool} {A B : Prop} (e : b = false) (h : B) : if b = true then A else B := by
  rw [e]
  exact iteF h
theorem iteTb {b : Bool} {A B : Prop} (e : b = true) (h : A) : if b = true then A else B := by
  rw [e]
  exact iteT h
theorem neSelf {v w : V} (e : v = w) : (!decide (v = w)) = false := by rw [decide_eq_true e]; rfl
theorem dec_eq {p r : Prop} {ip : Decidable p} {ir : Decidable r} (h : p ↔ r) : decide p = decide r := by
  by_cases c : p
  · rw [decide_eq_true c, decide_eq_true (h.mp c)]
  · rw [decide_eq_false c, decide_eq_false (fun z => c (h.mpr z))]
theorem dself {v : V} : decide (v = v) = true := decide_eq_true rfl
theorem odt {p : Prop} {i : Decidable p} (h : @decide p i = true) : p := of_decide_eq_true h
theorem odf {p : Prop} {i : Decidable p} (h : @decide p i = false) : ¬ p := of_decide_eq_false h
theorem decT {p : Prop} {i : Decidable p} (h : p) : @decide p i = true := decide_eq_true h
theorem decF {p : Prop} {i : Decidable p} (h : ¬ p) : @decide p i = false := decide_eq_false h
theorem nndec {p : Prop} {i : Decidable p} (h : (!@decide p i) = true) : ¬ p := fun z => by rw [decT z] at h; cases h
theorem ndec {p : Prop} {i : Decidable p} (h : (!@decide p i) = false) : p := Decidable.byContradiction fun z => by rw [decF z] at h; cases h
/-- a road as a value -/
def wordOf (ring : Bool) : Str := if ring then "ring" else "line"
def roadV (ring : Bool) (len : Int) : List V := [.str (wordOf ring), .int len]
theorem word_line (ring : Bool) : (V.str (wordOf ring) = V.str "line") ↔ ring = false := by cases ring <;> decide +kernel
theorem word_ring (ring : Bool) : (V.str (wordOf ring) = V.str "ring") ↔ ring = true := by cases ring <;> decide +kernel
/-- how many places a road has -/
def placesOf (ring : Bool) (len : Int) : Int := if ring then len else len + 1
/-- a new object leaves all -/
theorem ex_at {H H' : Hp} {a : Addr} {o : HO} (e : Ex H H') (h : H a = some o) : H' a = some o := e a o h
theorem atI_lt {α : Type} {xs : List α} {i : Int} (h0 : 0 ≤ i) (h1 : i < xs.length) : ∃ v, atI xs i = some v ∧ xs[i.toNat]? = some v := by
  have hl : i.toNat < xs.length := by omega
  refine ⟨xs[i.toNat], ?_, List.getElem?_eq_getElem hl⟩
  have q := atI_nat (xs := xs) (j := i.toNat) (v := xs[i.toNat]) (List.getElem?_eq_getElem hl)
  have e : ((i.toNat : Nat) : Int) = i := by omega
  rw [e] at q
  exact q
/-- what a callee raises, wished for at slots of the known number -/
theorem passes_len {X : Cx} {W : WX} {F : XK} {n : Nat} (tk : Takes X W) (hn : X.N.length = n) (hw : ∀ (c : Value) (o : Option Addr) (τ : L2.St) (G : Hp), τ.length = n → F c o G → W c o τ G) : Passes (L2.CX X.prog X.w) X F := by
  intro pins τ G s e s' I c
  refine tk e s' (XE.of_call I (fun c o G' h => ?_) c)
  exact hw c o τ G' (I.len.trans hn) h
/-! #### isinstance of a caught error, whatever its class -/
def rIsX (K : PySem.W.Frag) (a : Addr) (cls : Value) (d : Option Addr) : List V → Hp → VK → Prop := fun xs H Q => ∃ D, cls = .ref D ∧ d = none ∧ ExcC K D ∧ rIsE K D a xs H Q
theorem call_isX {X : Cx} {a : Addr} {cls : Value} {d : Option Addr} {oe : Obj} {pn : List (Addr × Obj)} (hz : Zc cls d oe) (hf : ∃ vs, oe.data = .fields vs) : CallR (X.suite a ((a, oe) :: pn)) (.builtin "isinstance") (rIsX X.K a cls d) := by
  intro pins s σ H xs us Q I r h
  obtain ⟨D, rfl, rfl, C, h⟩ := h
  exact call_isE C hz hf pins s σ H xs us Q I r h
def excCB (K : PySem.W.Frag) (D : Addr) : Bool := decide (PySem.W.findIn K (.ref D) "__getattribute__" = some (some (.builtin "BaseException.__getattribute__"))) && (decide (PySem.W.findIn K (.ref D) "__getattr__" = some none) && (decide (PySem.W.subIn K (.ref D) (.type "BaseException") = some true) && (PySem.W.hasDictIn K D && (decide (PySem.W.findIn K (.ref D) "__class__" = some (some (.builtin "object.__class__"))) && (decide (PySem.W.specialIn K (.builtin "object.__class__") "__get__" = some (some (.builtin "getset_descriptor.__get__"))) && (decide (PySem.W.takesIn K (.builtin "object.__class__") = some true) && decide (PySem.W.mroIn K D (.type "object") = some true)))))))
theorem excCB_ok {K : PySem.W.Frag} {D : Addr} (h : excCB K D = true) : ExcC K D := by
  obtain ⟨h1, h⟩ := He.ba h
  obtain ⟨h2, h⟩ := He.ba h
  obtain ⟨h3, h⟩ := He.ba h
  obtain ⟨h4, h⟩ := He.ba h
  obtain ⟨h5, h⟩ := He.ba h
  obtain ⟨h6, h⟩ := He.ba h
  obtain ⟨h7, h8⟩ := He.ba h
  exact ⟨of_decide_eq_true h1, of_decide_eq_true h2, of_decide_eq_true h3, h4, of_decide_eq_true h5, of_decide_eq_true h6, of_decide_eq_true h7, of_decide_eq_true h8⟩
/-- what an own class must have, so that isinstance asks its instances rightly -/
structure InsC (K : PySem.W.Frag) (C : Addr) : Prop where
  ha : PySem.W.findIn K (.ref C) "__class__" = some (some (.builtin "object.__class__"))
  hn : PySem.W.specialIn K (.builtin "object.__class__") "__get__" = some (some (.builtin "getset_descriptor.__get__"))
  ht : PySem.W.takesIn K (.builtin "object.__class__") = some true
  hm : PySem.W.mroIn K C (.type "object") = some true
def insCB (K : PySem.W.Frag) (D : Addr) : Bool := decide (PySem.W.findIn K (.ref D) "__class__" = some (some (.builtin "object.__class__"))) && (decide (PySem.W.specialIn K (.builtin "object.__class__") "__get__" = some (some (.builtin "getset_descriptor.__get__"))) && (decide (PySem.W.takesIn K (.builtin "object.__class__") = some true) && decide (PySem.W.mroIn K D (.type "object") = some true)))
theorem insCB_ok {K : PySem.W.Frag} {D : Addr} (h : insCB K D = true) : InsC K D := by
  obtain ⟨h1, h⟩ := He.ba h
  obtain ⟨h2, h⟩ := He.ba h
  obtain ⟨h3, h4⟩ := He.ba h
  exact ⟨of_decide_eq_true h1, of_decide_eq_true h2, of_decide_eq_true h3, of_decide_eq_true h4⟩
/-! ### roads reckoned -/
def wayOf (ring : Bool) (len one other : Int) : Int := if ring = true then (if 2 * ((other - one) % len) ≤ len then (other - one) % len else (other - one) % len - len) else other - one
def apartOf (ring : Bool) (len one other : Int) : Int := if wayOf ring len one other < 0 then - wayOf ring len one other else wayOf ring len one other
/-! ### what the top has left -/
structure Txt (K : PySem.W.Frag) (mg : Str → Option Value) (D : Str → FuncData) : Prop where
  F_has_place : FunD K "has_place" "has_place" (defArgs s_has_place) (defBody s_has_place) (defScope s_has_place) [] [] (He.ga K "has_place") (D "has_place")
  m_has_place : mg "has_place" = some (.ref (He.ga K "has_place"))
  b_has_place : Binds K (D "has_place") ["road", "place"] []
  F_way : FunD K "way" "way" (defArgs s_way) (defBody s_way) (defScope s_way) [] [] (He.ga K "way") (D "way")
  m_way : mg "way" = some (.ref (He.ga K "way"))
  b_way : Binds K (D "way") ["road", "one", "other"] []
  F_moved : FunD K "moved" "moved" (defArgs s_moved) (defBody s_moved) (defScope s_moved) [] [] (He.ga K "moved") (D "moved")
  m_moved : mg "moved" = some (.ref (He.ga K "moved"))
  b_moved : Binds K (D "moved") ["road", "place", "by"] []
  F_law_cell_at : FunD K "_law_cell_at" "_law_cell_at" (defArgs s_law_cell_at) (defBody s_law_cell_at) (defScope s_law_cell_at) [] [] (He.ga K "_law_cell_at") (D "_law_cell_at")
  m_law_cell_at : mg "_law_cell_at" = some (.ref (He.ga K "_law_cell_at"))
  b_law_cell_at : Binds K (D "_law_cell_at") ["_law_script", "_law_k"] []
  F_law_wide : FunD K "_law_wide" "_law_wide" (defArgs s_law_wide) (defBody s_law_wide) (defScope s_law_wide) [] [] (He.ga K "_law_wide") (D "_law_wide")
  m_law_wide : mg "_law_wide" = some (.ref (He.ga K "_law_wide"))
  b_law_wide : Binds K (D "_law_wide") ["_law_cell", "_law_bound"] []
  F_law_whole : FunD K "_law_whole" "_law_whole" (defArgs s_law_whole) (defBody s_law_whole) (defScope s_law_whole) [] [] (He.ga K "_law_whole") (D "_law_whole")
  m_law_whole : mg "_law_whole" = some (.ref (He.ga K "_law_whole"))
  b_law_whole : Binds K (D "_law_whole") ["_law_found"] []
  F_law_road_by : FunD K "_law_road_by" "_law_road_by" (defArgs s_law_road_by) (defBody s_law_road_by) (defScope s_law_road_by) [] [] (He.ga K "_law_road_by") (D "_law_road_by")
  m_law_road_by : mg "_law_road_by" = some (.ref (He.ga K "_law_road_by"))
  b_law_road_by : Binds K (D "_law_road_by") ["_law_cell"] []
  F_law_places : FunD K "_law_places" "_law_places" (defArgs s_law_places) (defBody s_law_places) (defScope s_law_places) [] [] (He.ga K "_law_places") (D "_law_places")
  m_law_places : mg "_law_places" = some (.ref (He.ga K "_law_places"))
  b_law_places : Binds K (D "_law_places") ["_law_road"] []
  F_law_place_by : FunD K "_law_place_by" "_law_place_by" (defArgs s_law_place_by) (defBody s_law_place_by) (defScope s_law_place_by) [] [] (He.ga K "_law_place_by") (D "_law_place_by")
  m_law_place_by : mg "_law_place_by" = some (.ref (He.ga K "_law_place_by"))
  b_law_place_by : Binds K (D "_law_place_by") ["_law_road", "_law_cell"] []
  F_law_across : FunD K "_law_across" "_law_across" (defArgs s_law_across) (defBody s_law_across) (defScope s_law_across) [] [] (He.ga K "_law_across") (D "_law_across")
  m_law_across : mg "_law_across" = some (.ref (He.ga K "_law_across"))
  b_law_across : Binds K (D "_law_across") ["_law_road", "_law_one", "_law_other", "_law_cell"] []
  F_law_way : FunD K "_law_way" "_law_way" (defArgs s_law_way) (defBody s_law_way) (defScope s_law_way) [] [] (He.ga K "_law_way") (D "_law_way")
  m_law_way : mg "_law_way" = some (.ref (He.ga K "_law_way"))
  b_law_way : Binds K (D "_law_way") ["_law_road", "_law_one", "_law_other"] []
  F_law_steps : FunD K "_law_steps" "_law_steps" (defArgs s_law_steps) (defBody s_law_steps) (defScope s_law_steps) [] [] (He.ga K "_law_steps") (D "_law_steps")
  m_law_steps : mg "_law_steps" = some (.ref (He.ga K "_law_steps"))
  b_law_steps : Binds K (D "_law_steps") ["_law_cell"] []
  F_law_moved_by_class : FunD K "_law_moved_by_class" "_law_moved_by_class" (defArgs s_law_moved_by_class) (defBody s_law_moved_by_class) (defScope s_law_moved_by_class) [] [] (He.ga K "_law_moved_by_class") (D "_law_moved_by_class")
  m_law_moved_by_class : mg "_law_moved_by_class" = some (.ref (He.ga K "_law_moved_by_class"))
  b_law_moved_by_class : Binds K (D "_law_moved_by_class") ["_law_road", "_law_place", "_law_by"] []
  F_law_moved_by_base : FunD K "_law_moved_by_base" "_law_moved_by_base" (defArgs s_law_moved_by_base) (defBody s_law_moved_by_base) (defScope s_law_moved_by_base) [] [] (He.ga K "_law_moved_by_base") (D "_law_moved_by_base")
  m_law_moved_by_base : mg "_law_moved_by_base" = some (.ref (He.ga K "_law_moved_by_base"))
  b_law_moved_by_base : Binds K (D "_law_moved_by_base") ["_law_road", "_law_place", "_law_by"] []
  F_law : FunD K "law" "law" (defArgs s_law) (defBody s_law) (defScope s_law) [] [] (He.ga K "law") (D "law")
  m_law : mg "law" = some (.ref (He.ga K "law"))
  b_law : Binds K (D "law") ["_law_script"] []
  m_RouteError : mg "RouteError" = some (.ref (He.ga K "RouteError"))
  x_RouteError : PySem.W.excIn K (He.ga K "RouteError") He.veBase "ValueError.__new__" = true
  kp_RouteError : PySem.W.keepIn K (.ref (He.ga K "RouteError")) = true
  sb_RouteError : PySem.W.subIn K (.ref (He.ga K "RouteError")) (.type "BaseException") = some true
  ty_RouteError : PySem.W.typeIn K (.ref (He.ga K "RouteError")) = some (.type "type")
  m_OffRoad : mg "OffRoad" = some (.ref (He.ga K "OffRoad"))
  x_OffRoad : PySem.W.excIn K (He.ga K "OffRoad") He.veBase "ValueError.__new__" = true
  kp_OffRoad : PySem.W.keepIn K (.ref (He.ga K "OffRoad")) = true
  sb_OffRoad : PySem.W.subIn K (.ref (He.ga K "OffRoad")) (.type "BaseException") = some true
  ty_OffRoad : PySem.W.typeIn K (.ref (He.ga K "OffRoad")) = some (.type "type")
  e_OffRoad_OffRoad : PySem.W.exmOne K (.ref (He.ga K "OffRoad")) (.ref (He.ga K "OffRoad")) = some true
  e_OffRoad_RouteError : PySem.W.exmOne K (.ref (He.ga K "OffRoad")) (.ref (He.ga K "RouteError")) = some true
  c_LINE : ∃ u, mg "LINE" = some u ∧ RelV (.str "line") u
  c_RING : ∃ u, mg "RING" = some u ∧ RelV (.str "ring") u
  m_len : mg "len" = none
  m_isinstance : mg "isinstance" = none
  m_int : mg "int" = none
  m_bool : mg "bool" = none
  m_ValueError : mg "ValueError" = none
  ec_OffRoad : ExcC K (He.ga K "OffRoad")
  is_OffRoad_ValueError : PySem.W.kitOne K (.ref (He.ga K "OffRoad")) (.type "ValueError") = some true
section
variable {P : Program} {w : World} {K : PySem.W.Frag} {mg : Str → Option Value} {base : Heap} {D : Str → FuncData}
/-! #### has_place -/
def sp_has_place (K : PySem.W.Frag) : Sp := fun vs H Q _ => ∃ (r : Addr) (ring : Bool) (len p : Int), vs = [.ref r, .int p] ∧ SqT K H r (roadV ring len) ∧ Q (.bl (decide (0 ≤ p ∧ p < placesOf ring len))) H
set_option maxHeartbeats 4000000 in
theorem ok_has_place (T : Txt K mg D) : FnOk P w K mg base CX0 1 (He.ga K "has_place") (D "has_place") ["road", "place"] (sp_has_place K) := by
  refine T.F_has_place.ok sc_has_place (fun vs H Q E h => ?_) (fun cdv A outer s H vs Q E hr h => ?_)
  · obtain ⟨_, _, _, _, rfl, _⟩ := h
    rfl
  obtain ⟨r, ring, len, p, rfl, hS, q⟩ := h
  refine ⟨_, PSs.nox (pss_cons (ps_asg (pv 0) (pg_tup rfl (pgs_cons (pg_name (i := 2) sc_has_place.nd rfl (Or.inl rfl)) (pgs_cons (pg_name (i := 3) sc_has_place.nd rfl (Or.inl rfl)) pgs_nil))))
    (pss_cons (ps_if (pt_cmpR op_eq (pv 2) (pe_globE rfl T.c_LINE) (nomark _)) (pss_one (ps_ret (pe_chain op_le op_le pe_int (pv 1) (pv 3)))) pss_nil)
    (pss_one (ps_ret (pe_chain op_le op_lt pe_int (pv 1) (pv 3)))))), ?_⟩
  refine ⟨_, rfl, r, _, rfl, hS, rfl, ?_⟩
  walk_at "go"
  refine iteB (fun c => ?_) (fun c => ?_)
  · have hr := (word_line ring).mp (of_decide_eq_true c)
    subst hr
    have hp : placesOf false len = len + 1 := rfl
    walk_at "go"
    refine iteB (fun c2 => ?_) (fun c2 => ?_)
    · have c3 := of_decide_eq_true c2
      walk_at "go"
      rw [dec_eq (r := p ≤ len) (by rw [hp]; omega)] at q
      exact q
    · have c3 := of_decide_eq_false c2
      rw [decide_eq_false (by omega)] at q
      exact q
  · have hr : ring = true := by
      cases ring with
      | true => rfl
      | false => exact absurd ((word_line false).mpr rfl) (of_decide_eq_false c)
    subst hr
    have hp : placesOf true len = len := rfl
    walk_at "go"
    refine iteB (fun c2 => ?_) (fun c2 => ?_)
    · have c3 := of_decide_eq_true c2
      walk_at "go"
      rw [dec_eq (r := p < len) (by rw [hp]; omega)] at q
      exact q
    · have c3 := of_decide_eq_false c2
      rw [decide_eq_false (by omega)] at q
      exact q
/-! #### way -/
def sp_way (K : PySem.W.Frag) : Sp := fun vs H Q _ => ∃ (r : Addr) (ring : Bool) (len one other : Int), vs = [.ref r, .int one, .int other] ∧ SqT K H r (roadV ring len) ∧ 0 < len ∧ Q (.int (wayOf ring len one other)) H
set_option maxHeartbeats 4000000 in
theorem ok_way (T : Txt K mg D) : FnOk P w K mg base CX0 1 (He.ga K "way") (D "way") ["road", "one", "other"] (sp_way K) := by
  refine T.F_way.ok sc_way (fun vs H Q E h => ?_) (fun cdv A outer s H vs Q E hr h => ?_)
  · obtain ⟨_, _, _, _, _, rfl, _⟩ := h
    rfl
  obtain ⟨r, ring, len, one, other, rfl, hS, hl, q⟩ := h
  refine ⟨_, PSs.nox (pss_cons (ps_asg (pv 0) (pg_tup rfl (pgs_cons (pg_name (i := 3) sc_way.nd rfl (Or.inl rfl)) (pgs_cons (pg_name (i := 4) sc_way.nd rfl (Or.inl rfl)) pgs_nil))))
    (pss_cons (ps_if (pt_cmpR op_eq (pv 3) (pe_globE rfl T.c_LINE) (nomark _)) (pss_one (ps_ret (pe_op op_sub (pv 2) (pv 1)))) pss_nil)
    (pss_cons (ps_set (i := 5) sc_way.nd rfl (Or.inl rfl) (pe_op op_mod (pe_op op_sub (pv 2) (pv 1)) (pv 4)))
    (pss_cons (ps_if (pt_cmpR op_le (pe_op op_mul pe_int (pv 5)) (pv 4) (nomark _)) (pss_one (ps_ret (pv 5))) pss_nil)
    (pss_one (ps_ret (pe_op op_sub (pv 5) (pv 4)))))))), ?_⟩
  refine ⟨_, rfl, r, _, rfl, hS, rfl, ?_⟩
  walk_at "go"
  refine iteB (fun c => ?_) (fun c => ?_)
  · have hr := (word_line ring).mp (of_decide_eq_true c)
    subst hr
    walk_at "go"
    exact q
  · have hr : ring = true := by
      cases ring with
      | true => rfl
      | false => exact absurd ((word_line false).mpr rfl) (of_decide_eq_false c)
    subst hr
    walk_at "go"
    have q' : Q (.int (if 2 * ((other - one) % len) ≤ len then (other - one) % len else (other - one) % len - len)) H := q
    refine iteB (fun c => ?_) (fun c => ?_)
    · walk_at "go"
      rw [if_pos (of_decide_eq_true c)] at q'
      exact q'
    · walk_at "go"
      rw [if_neg (of_decide_eq_false c)] at q'
      exact q'
/-! #### _law_cell_at -/
def sp_law_cell_at (K : PySem.W.Frag) : Sp := fun vs H Q _ => ∃ (a : Addr) (ns : List Int) (k : Int), vs = [.ref a, .int k] ∧ SqL K H a (ns.map V.int) ∧ ns.length ≤ 63 ∧ ∀ v, Q (.int v) H
set_option maxHeartbeats 4000000 in
theorem ok_law_cell_at (T : Txt K mg D) : FnOk P w K mg base CX0 1 (He.ga K "_law_cell_at") (D "_law_cell_at") ["_law_script", "_law_k"] (sp_law_cell_at K) := by
  refine T.F_law_cell_at.ok sc_law_cell_at (fun vs H Q E h => ?_) (fun cdv A outer s H vs Q E hr h => ?_)
  · obtain ⟨_, _, _, rfl, _⟩ := h
    rfl
  obtain ⟨a, ns, k, rfl, hS, hn, q⟩ := h
  refine ⟨_, PSs.nox (pss_cons (ps_if (pt_cmpR op_eq (pe_callB call_len_seq rfl T.m_len PySem.boot_len (pa_cons (pv 0) pa_nil)) pe_int (nomark _)) (pss_one (ps_ret (pv 1))) pss_nil)
    (pss_one (ps_ret (pe_op op_add (pe_ix ix_list (pv 0) (pe_op op_mod (pv 1) (pe_callB call_len_seq rfl T.m_len PySem.boot_len (pa_cons (pv 0) pa_nil))) (fun _ _ => rfl)) (pe_op op_mul pe_int (pe_op op_fdiv (pv 1) (pe_callB call_len_seq rfl T.m_len PySem.boot_len (pa_cons (pv 0) pa_nil)))))))), ?_⟩
  have hl : (ns.map V.int).length = ns.length := List.length_map _
  walk_at "go"
  refine iteB (fun c => ?_) (fun c => ?_)
  · walk_at "go"
    exact q _
  · have c' : ¬ (((ns.map V.int).length : Nat) : Int) = 0 := fun z => of_decide_eq_false c (congrArg V.int z)
    have hp : (0 : Int) < (((ns.map V.int).length : Nat) : Int) := by omega
    have hj : k % (((ns.map V.int).length : Nat) : Int) < (((ns.map V.int).length : Nat) : Int) := Int.emod_lt_of_pos _ hp
    have hj0 : 0 ≤ k % (((ns.map V.int).length : Nat) : Int) := Int.emod_nonneg _ c'
    obtain ⟨v, hv, hv2⟩ := atI_lt hj0 hj
    obtain ⟨z, rfl⟩ : ∃ z, v = V.int z := by
      rw [List.getElem?_map] at hv2
      cases e : ns[(k % (((ns.map V.int).length : Nat) : Int)).toNat]? with
      | none => rw [e] at hv2; cases hv2
      | some z => rw [e] at hv2; exact ⟨z, (Option.some.inj hv2).symm⟩
    walk_at "go"
    exact q _
/-! #### _law_wide -/
def sp_law_wide (K : PySem.W.Frag) : Sp := fun vs H Q _ => ∃ (c b : Int), vs = [.int c, .int b] ∧ 0 < b ∧ ∀ v, 0 ≤ v → v < b → Q (.int v) H
set_option maxHeartbeats 4000000 in
theorem ok_law_wide (T : Txt K mg D) : FnOk P w K mg base CX0 1 (He.ga K "_law_wide") (D "_law_wide") ["_law_cell", "_law_bound"] (sp_law_wide K) := by
  refine T.F_law_wide.ok sc_law_wide (fun vs H Q E h => ?_) (fun cdv A outer s H vs Q E hr h => ?_)
  · obtain ⟨_, _, rfl, _⟩ := h
    rfl
  obtain ⟨c, b, rfl, hb, q⟩ := h
  refine ⟨_, PSs.nox (pss_one (ps_ret (pe_op op_mod (pe_op op_mod (pe_op op_mul (pv 0) pe_int) pe_int) (pv 1)))), ?_⟩
  walk_at "go"
  exact q _ (Int.emod_nonneg _ (by omega)) (Int.emod_lt_of_pos _ hb)
/-! #### _law_whole -/
def sp_law_whole (K : PySem.W.Frag) : Sp := fun vs H Q _ => ∃ (x : V), vs = [x] ∧ ((∃ i, x = .int i ∧ Q (.bl true) H) ∨ (x = .non ∧ Q (.bl false) H) ∨ (∃ b, x = .bl b ∧ Q (.bl false) H) ∨ (∃ b, x = .str b ∧ Q (.bl false) H))
set_option maxHeartbeats 4000000 in
theorem ok_law_whole (T : Txt K mg D) : FnOk P w K mg base CX0 1 (He.ga K "_law_whole") (D "_law_whole") ["_law_found"] (sp_law_whole K) := by
  refine T.F_law_whole.ok sc_law_whole (fun vs H Q E h => ?_) (fun cdv A outer s H vs Q E hr h => ?_)
  · obtain ⟨_, rfl, _⟩ := h
    rfl
  obtain ⟨x, rfl, q⟩ := h
  refine ⟨_, PSs.nox (pss_one (ps_ret (pe_and (pe_callB call_isi rfl T.m_isinstance (by decide +kernel) (pa_cons (pv 0) (pa_cons (pe_bltn (v := V.ty "int") (u := Value.type "int") rfl T.m_int (by decide +kernel) rfl) pa_nil))) (pe_one (pe_not (pe_callB call_isi rfl T.m_isinstance (by decide +kernel) (pa_cons (pv 0) (pa_cons (pe_bltn (v := V.ty "bool") (u := Value.type "bool") rfl T.m_bool (by decide +kernel) rfl) pa_nil)))))))), ?_⟩
  walk_at "go"
  rcases q with ⟨i, rfl, q⟩ | ⟨rfl, q⟩ | ⟨b, rfl, q⟩ | ⟨b, rfl, q⟩
  · refine ⟨_, _, _, _, true, rfl, .ty "int", .base (.int _), kit_ty (by decide +kernel), true, rfl, iteT ?_⟩
    walk_at "go"
    refine ⟨_, _, _, _, false, rfl, .ty "bool", .base (.int _), kit_ty (by decide +kernel), false, rfl, q⟩
  · exact ⟨_, _, _, _, false, rfl, .ty "int", .base .non, kit_ty (by decide +kernel), false, rfl, iteF q⟩
  · refine ⟨_, _, _, _, true, rfl, .ty "int", .base (.bl _), kit_ty (by decide +kernel), true, rfl, iteT ?_⟩
    walk_at "go"
    refine ⟨_, _, _, _, true, rfl, .ty "bool", .base (.bl _), kit_ty (by decide +kernel), true, rfl, q⟩
  · exact ⟨_, _, _, _, false, rfl, .ty "int", .base (.str _), kit_ty (by decide +kernel), false, rfl, iteF q⟩
/-! #### _law_places -/
def sp_law_places (K : PySem.W.Frag) : Sp := fun vs H Q _ => ∃ (r : Addr) (ring : Bool) (len : Int), vs = [.ref r] ∧ SqT K H r (roadV ring len) ∧ Q (.int (placesOf ring len)) H
set_option maxHeartbeats 4000000 in
theorem ok_law_places (T : Txt K mg D) : FnOk P w K mg base CX0 1 (He.ga K "_law_places") (D "_law_places") ["_law_road"] (sp_law_places K) := by
  refine T.F_law_places.ok sc_law_places (fun vs H Q E h => ?_) (fun cdv A outer s H vs Q E hr h => ?_)
  · obtain ⟨_, _, _, rfl, _⟩ := h
    rfl
  obtain ⟨r, ring, len, rfl, hS, q⟩ := h
  refine ⟨_, PSs.nox (pss_cons (ps_if (pt_cmpR op_eq (pe_ix ix_tup (pv 0) pe_int (fun _ _ => rfl)) pe_str (nomark _)) (pss_one (ps_ret (pe_op op_add (pe_ix ix_tup (pv 0) pe_int (fun _ _ => rfl)) pe_int))) pss_nil)
    (pss_one (ps_ret (pe_ix ix_tup (pv 0) pe_int (fun _ _ => rfl))))), ?_⟩
  have a0 : atI (roadV ring len) 0 = some (.str (wordOf ring)) := rfl
  have a1 : atI (roadV ring len) 1 = some (.int len) := rfl
  walk_at "go"
  refine iteB (fun c => ?_) (fun c => ?_)
  · have hr := (word_line ring).mp (of_decide_eq_true c)
    subst hr
    walk_at "go"
    exact q
  · have hr : ring = true := by
      cases ring with
      | true => rfl
      | false => exact absurd ((word_line false).mpr rfl) (of_decide_eq_false c)
    subst hr
    walk_at "go"
    exact q
/-! #### _law_across -/
def sp_law_across (K : PySem.W.Frag) : Sp := fun vs H Q _ => ∃ (r : Addr) (ring : Bool) (len one other c : Int), vs = [.ref r, .int one, .int other, .int c] ∧ SqT K H r (roadV ring len) ∧ 1 ≤ len ∧ (0 ≤ other ∧ other < placesOf ring len) ∧ ∀ v, 0 ≤ v → v < placesOf ring len → Q (.int v) H
set_option maxHeartbeats 4000000 in
theorem ok_law_across (T : Txt K mg D) : FnOk P w K mg base CX0 1 (He.ga K "_law_across") (D "_law_across") ["_law_road", "_law_one", "_law_other", "_law_cell"] (sp_law_across K) := by
  refine T.F_law_across.ok sc_law_across (fun vs H Q E h => ?_) (fun cdv A outer s H vs Q E hr h => ?_)
  · obtain ⟨_, _, _, _, _, _, rfl, _⟩ := h
    rfl
  obtain ⟨r, ring, len, one, other, c, rfl, hS, hl, ho, q⟩ := h
  refine ⟨_, PSs.nox (pss_cons (ps_if (PW.pt (pw_and (pt_cmpR op_eq (pe_op op_mod (pv 3) pe_int) pe_int (nomark _)) (pw_and (pt_cmpR op_eq (pe_ix ix_tup (pv 0) pe_int (fun _ _ => rfl)) pe_str (nomark _)) (pw_and1 (pt_cmpR op_eq (pe_op op_mod (pe_ix ix_tup (pv 0) pe_int (fun _ _ => rfl)) pe_int) pe_int (nomark _)))))) (pss_one (ps_ret (pe_op op_mod (pe_op op_add (pv 1) (pe_op op_fdiv (pe_ix ix_tup (pv 0) pe_int (fun _ _ => rfl)) pe_int)) (pe_ix ix_tup (pv 0) pe_int (fun _ _ => rfl))))) pss_nil)
    (pss_one (ps_ret (pv 2)))), ?_⟩
  have fin : ∀ D : Ends, D.rt = Q → tRet (tVar 2) D (L2.start N_law_across [V.ref r, V.int one, V.int other, V.int c]) H := fun D e => by
    walk_at "go"
    rw [e]
    exact q _ ho.1 ho.2
  walk_at "go"
  refine iteB (fun b => ?_) (fun b => ?_)
  · walk_at "go"
    refine iteB (fun b => ?_) (fun b => ?_)
    · have hr := (word_ring ring).mp (of_decide_eq_true b)
      subst hr
      walk_at "go"
      refine iteB (fun b => ?_) (fun b => ?_)
      · walk_at "go"
        exact q _ (Int.emod_nonneg _ (by omega)) (Int.emod_lt_of_pos _ (by omega))
      · exact fin _ rfl
    · exact fin _ rfl
  · exact fin _ rfl
/-! #### _law_way -/
def way1 (ring : Bool) (len g : Int) : Int := if ring = true ∧ 2 * g > len then g - len else g
def way2 (ring : Bool) (len g : Int) : Int := if ring = true ∧ 2 * g ≤ -len then g + len else g
def lawWay (ring : Bool) (len one other : Int) : Int := way2 ring len (way1 ring len (other - one))
theorem way1_a {ring : Bool} {len g : Int} (h1 : ring = true) (h2 : 2 * g > len) : g - len = way1 ring len g := by unfold way1; rw [if_pos ⟨h1, h2⟩]
theorem way1_b {ring : Bool} {len g : Int} (h : ¬ (ring = true ∧ 2 * g > len)) : g = way1 ring len g := by unfold way1; rw [if_neg h]
theorem way2_a {ring : Bool} {len g : Int} (h1 : ring = true) (h2 : 2 * g ≤ -len) : g + len = way2 ring len g := by unfold way2; rw [if_pos ⟨h1, h2⟩]
theorem way2_b {ring : Bool} {len g : Int} (h : ¬ (ring = true ∧ 2 * g ≤ -len)) : g = way2 ring len g := by unfold way2; rw [if_neg h]
theorem way_is {ring : Bool} {len one other : Int} (hn : 1 ≤ len) (a0 : 0 ≤ one) (a1 : one < placesOf ring len) (b0 : 0 ≤ other) (b1 : other < placesOf ring len) : lawWay ring len one other = wayOf ring len one other := by
  unfold lawWay wayOf way1 way2
  cases ring with
  | false => simp
  | true =>
    have a1' : one < len := a1
    have b1' : other < len := b1
    have e : (other - one) % len = if one ≤ other then other - one else other - one + len := by
      split
      · exact Int.emod_eq_of_lt (by omega) (by omega)
      · rw [← Int.add_emod_right]
        exact Int.emod_eq_of_lt (by omega) (by omega)
    rw [e]
    simp only [true_and, if_true]
    split <;> split <;> split <;> (try split) <;> omega
def sp_law_way (K : PySem.W.Frag) : Sp := fun vs H Q _ => ∃ (r : Addr) (ring : Bool) (len one other : Int), vs = [.ref r, .int one, .int other] ∧ SqT K H r (roadV ring len) ∧ 1 ≤ len ∧ Q (.int (lawWay ring len one other)) H
set_option maxHeartbeats 4000000 in
theorem ok_law_way (T : Txt K mg D) : FnOk P w K mg base CX0 1 (He.ga K "_law_way") (D "_law_way") ["_law_road", "_law_one", "_law_other"] (sp_law_way K) := by
  refine T.F_law_way.ok sc_law_way (fun vs H Q E h => ?_) (fun cdv A outer s H vs Q E hr h => ?_)
  · obtain ⟨_, _, _, _, _, rfl, _⟩ := h
    rfl
  obtain ⟨r, ring, len, one, other, rfl, hS, hl, q⟩ := h
  refine ⟨_, PSs.nox (pss_cons (ps_set (i := 3) sc_law_way.nd rfl (Or.inl rfl) (pe_op op_sub (pv 2) (pv 1)))
    (Evl.pss_cut (ps_if (PW.pt (pw_and (pt_cmpR op_eq (pe_ix ix_tup (pv 0) pe_int (fun _ _ => rfl)) pe_str (nomark _)) (pw_and1 (pt_cmpR op_gt (pe_op op_mul pe_int (pv 3)) (pe_ix ix_tup (pv 0) pe_int (fun _ _ => rfl)) (nomark _))))) (pss_one (ps_set (i := 3) sc_law_way.nd rfl (Or.inl rfl) (pe_op op_sub (pv 3) (pe_ix ix_tup (pv 0) pe_int (fun _ _ => rfl))))) pss_nil)
    (Evl.pss_cut (ps_if (PW.pt (pw_and (pt_cmpR op_eq (pe_ix ix_tup (pv 0) pe_int (fun _ _ => rfl)) pe_str (nomark _)) (pw_and1 (pt_cmpR op_le (pe_op op_mul pe_int (pv 3)) (pe_un un_neg (pe_ix ix_tup (pv 0) pe_int (fun _ _ => rfl))) (nomark _))))) (pss_one (ps_set (i := 3) sc_law_way.nd rfl (Or.inl rfl) (pe_op op_add (pv 3) (pe_ix ix_tup (pv 0) pe_int (fun _ _ => rfl))))) pss_nil)
    (pss_one (ps_ret (pv 3)))))), ?_⟩
  have fin : ∀ x y : Int, x = y → [some (V.ref r), some (V.int one), some (V.int other), some (V.int x)] = [some (V.ref r), some (V.int one), some (V.int other), some (V.int y)] := fun x y e => by rw [e]
  walk_at "go"
  refine ⟨fun σ' H' => H' = H ∧ σ' = [some (V.ref r), some (V.int one), some (V.int other), some (V.int (way1 ring len (other - one)))], ?_, ?_⟩
  · walk_at "go"
    refine iteB (fun c => ?_) (fun c => ?_)
    · have hr := (word_ring ring).mp (of_decide_eq_true c)
      walk_at "go"
      refine iteB (fun c2 => ?_) (fun c2 => ?_)
      · walk_at "go"
        exact fin _ _ (way1_a hr (of_decide_eq_true c2))
      · exact ⟨rfl, fin _ _ (way1_b fun z => of_decide_eq_false c2 z.2)⟩
    · exact ⟨rfl, fin _ _ (way1_b fun z => of_decide_eq_false c ((word_ring ring).mpr z.1))⟩
  rintro σ' H4 ⟨rfl, rfl⟩
  refine ⟨fun σ' H' => H' = H4 ∧ σ' = [some (V.ref r), some (V.int one), some (V.int other), some (V.int (lawWay ring len one other))], ?_, ?_⟩
  · walk_at "go"
    refine iteB (fun c => ?_) (fun c => ?_)
    · have hr := (word_ring ring).mp (of_decide_eq_true c)
      walk_at "go"
      refine iteB (fun c2 => ?_) (fun c2 => ?_)
      · walk_at "go"
        exact fin _ _ (way2_a hr (of_decide_eq_true c2))
      · exact ⟨rfl, fin _ _ (way2_b fun z => of_decide_eq_false c2 z.2)⟩
    · exact ⟨rfl, fin _ _ (way2_b fun z => of_decide_eq_false c ((word_ring ring).mpr z.1))⟩
  rintro σ' H5 ⟨rfl, rfl⟩
  walk_at "go"
  exact q
/-! #### moved -/
/-- where a place moved comes -/
def movedTo (ring : Bool) (len x v : Int) : Prop := (ring = true ∧ v = x % len) ∨ (ring = false ∧ 0 ≤ x ∧ x ≤ len ∧ v = x)
def sp_moved (K : PySem.W.Frag) : Sp := fun vs H Q E => ∃ (r : Addr) (ring : Bool) (len place by_ : Int), vs = [.ref r, .int place, .int by_] ∧ SqT K H r (roadV ring len) ∧ 0 < len ∧ (∀ v, movedTo ring len (place + by_) v → Q (.int v) H) ∧
  (ring = false → ¬ (0 ≤ place + by_ ∧ place + by_ ≤ len) → E (.ref (He.ga K "OffRoad")) none H)
set_option maxHeartbeats 4000000 in
theorem ok_moved (T : Txt K mg D) : FnOk P w K mg base (L2.CX P w) 2 (He.ga K "moved") (D "moved") ["road", "place", "by"] (sp_moved K) := by
  refine T.F_moved.ok sc_moved (fun vs H Q E h => ?_) (fun cdv A outer s H vs Q E hr h => ?_)
  · obtain ⟨_, _, _, _, _, rfl, _⟩ := h
    rfl
  obtain ⟨r, ring, len, place, by_, rfl, hS, hl, q1, q3⟩ := h
  refine ⟨_, (pss_cons (ps_asg (pv 0) (pg_tup rfl (pgs_cons (pg_name (i := 3) sc_moved.nd rfl (Or.inl rfl)) (pgs_cons (pg_name (i := 4) sc_moved.nd rfl (Or.inl rfl)) pgs_nil))))
    (pss_cons (ps_set (i := 5) sc_moved.nd rfl (Or.inl rfl) (pe_op op_add (pv 1) (pv 2)))
    (pss_cons (ps_if (pt_cmpR op_eq (pv 3) (pe_globE rfl T.c_RING) (nomark _)) (pss_one (ps_ret (pe_op op_mod (pv 5) (pv 4)))) pss_nil)
    (pss_cons (ps_if (pt_not (pt_val (pe_call (ok_has_place T) hr rfl T.m_has_place T.F_has_place.kp T.b_has_place .nil pass0 (pa_cons (pv 0) (pa_cons (pv 5) pa_nil))))) (pss_one (ps_raise rfl (takes_of rfl rfl rfl rfl) (pmk_own PySem.F.excBase_ValueError T.x_OffRoad T.m_OffRoad T.kp_OffRoad (raises_own T.sb_OffRoad T.ty_OffRoad) (by exact rfl)))) pss_nil)
    (pss_one (ps_ret (pv 5))))))), ?_⟩
  refine ⟨_, rfl, r, _, rfl, hS, rfl, ?_⟩
  walk_at "go"
  refine iteB (fun c => ?_) (fun c => ?_)
  · have hr := (word_ring ring).mp (of_decide_eq_true c)
    walk_at "go"
    exact q1 _ (Or.inl ⟨hr, rfl⟩)
  · have hr : ring = false := by
      cases ring with
      | false => rfl
      | true => exact absurd ((word_ring true).mpr rfl) (of_decide_eq_false c)
    subst hr
    have hp : placesOf false len = len + 1 := rfl
    walk_at "go"
    refine ⟨r, false, len, place + by_, rfl, hS, ?_⟩
    walk_at "go"
    refine iteB (fun c2 => ?_) (fun c2 => ?_)
    · refine q3 rfl (fun z => ?_)
      rw [decide_eq_true (by omega)] at c2
      exact absurd c2 (by decide)
    · walk_at "go"
      by_cases z : 0 ≤ place + by_ ∧ place + by_ < placesOf false len
      · exact q1 _ (Or.inr ⟨rfl, by omega, by omega, rfl⟩)
      · rw [decide_eq_false z] at c2
        exact absurd c2 (by decide)
/-! #### _law_road_by -/
def sp_law_road_by (K : PySem.W.Frag) : Sp := fun vs H Q _ => ∃ (c : Int), vs = [.int c] ∧ ∀ (ring : Bool) (len : Int) (r : Addr) (H' : Hp), 1 ≤ len → len ≤ 1000000000 → Ex H H' → H r = none → H' r = some (.tup (roadV ring len)) → Q (.ref r) H'
theorem at4 {a b c d i : Int} (h0 : 0 ≤ i) (h4 : i < 4) : ∃ v, atI [V.int a, V.int b, V.int c, V.int d] i = some (.int v) ∧ (v = a ∨ v = b ∨ v = c ∨ v = d) := by
  have : i = 0 ∨ i = 1 ∨ i = 2 ∨ i = 3 := by omega
  rcases this with rfl | rfl | rfl | rfl
  · exact ⟨a, rfl, by simp⟩
  · exact ⟨b, rfl, by simp⟩
  · exact ⟨c, rfl, by simp⟩
  · exact ⟨d, rfl, by simp⟩
theorem at3 {a b c i : Int} (h0 : 0 ≤ i) (h4 : i < 3) : ∃ v, atI [V.int a, V.int b, V.int c] i = some (.int v) ∧ (v = a ∨ v = b ∨ v = c) := by
  have : i = 0 ∨ i = 1 ∨ i = 2 := by omega
  rcases this with rfl | rfl | rfl
  · exact ⟨a, rfl, by simp⟩
  · exact ⟨b, rfl, by simp⟩
  · exact ⟨c, rfl, by simp⟩
theorem at2 {a b i : Int} (h0 : 0 ≤ i) (h4 : i < 2) : ∃ v, atI [V.int a, V.int b] i = some (.int v) ∧ (v = a ∨ v = b) := by
  have : i = 0 ∨ i = 1 := by omega
  rcases this with rfl | rfl
  · exact ⟨a, rfl, by simp⟩
  · exact ⟨b, rfl, by simp⟩
theorem atRoad {c : Int} : ∃ ring, atI [V.str "line", V.str "ring"] (c % 2) = some (.str (wordOf ring)) := by
  have : c % 2 = 0 ∨ c % 2 = 1 := by omega
  rcases this with h | h <;> rw [h]
  · exact ⟨false, rfl⟩
  · exact ⟨true, rfl⟩
set_option maxHeartbeats 4000000 in
theorem ok_law_road_by (T : Txt K mg D) : FnOk P w K mg base CX0 2 (He.ga K "_law_road_by") (D "_law_road_by") ["_law_cell"] (sp_law_road_by K) := by
  refine T.F_law_road_by.ok sc_law_road_by (fun vs H Q E h => ?_) (fun cdv A outer s H vs Q E hr h => ?_)
  · obtain ⟨_, rfl, _⟩ := h
    rfl
  obtain ⟨c, rfl, q⟩ := h
  refine ⟨_, PSs.nox (pss_cons (ps_set (i := 1) sc_law_road_by.nd rfl (Or.inl rfl) (pe_op op_add pe_int (pe_op op_mod (pe_op op_fdiv (pv 0) pe_int) pe_int)))
    (Evl.pss_cut (ps_if (pt_cmpR op_eq (pe_op op_mod (pe_op op_fdiv (pv 0) pe_int) pe_int) pe_int (nomark _)) (pss_one (ps_set (i := 1) sc_law_road_by.nd rfl (Or.inl rfl) (pe_op op_add pe_int (pe_call (ok_law_wide T) hr rfl T.m_law_wide T.F_law_wide.kp T.b_law_wide .nil pass0 (pa_cons (pe_op op_fdiv (pv 0) pe_int) (pa_cons (pe_op op_pow pe_int pe_int) pa_nil)))))) pss_nil)
    (Evl.pss_cut (ps_if (pt_cmpR op_eq (pe_op op_mod (pe_op op_fdiv (pv 0) pe_int) pe_int) pe_int (nomark _)) (pss_one (ps_set (i := 1) sc_law_road_by.nd rfl (Or.inl rfl) (pe_ix ix_list (pe_lst (pa_cons pe_int (pa_cons pe_int (pa_cons pe_int (pa_cons (pe_op op_pow pe_int pe_int) pa_nil))))) (pe_op op_mod (pe_op op_fdiv (pv 0) pe_int) pe_int) (fun _ _ => rfl)))) pss_nil)
    (pss_one (ps_ret (pe_tup (pa_cons (pe_ix ix_list (pe_lst (pa_cons pe_str (pa_cons pe_str pa_nil))) (pe_op op_mod (pv 0) pe_int) (fun _ _ => rfl)) (pa_cons (pv 1) pa_nil)))))))), ?_⟩
  have h9 : (10 : Int) ^ (9 : Int).toNat = 1000000000 := by decide +kernel
  walk_at "go"
  refine ⟨fun σ' H' => ∃ len, 1 ≤ len ∧ len ≤ 1000000000 ∧ σ' = [some (V.int c), some (V.int len)] ∧ Ex H H', ?_, ?_⟩
  · walk_at "go"
    refine iteB (fun b => ?_) (fun b => ?_)
    · walk_at "go"
      intro v v0 v1
      walk_at "go"
      exact ⟨_, by omega, by omega, rfl, Ex.refl H⟩
    · exact ⟨_, by omega, by omega, rfl, Ex.refl H⟩
  rintro σ' H1 ⟨len, l1, l2, rfl, e1⟩
  refine ⟨fun σ' H' => ∃ len, 1 ≤ len ∧ len ≤ 1000000000 ∧ σ' = [some (V.int c), some (V.int len)] ∧ Ex H H', ?_, ?_⟩
  · walk_at "go"
    refine iteB (fun b => ?_) (fun b => ?_)
    · walk_at "go"
      intro p hp
      walk_at "go"
      obtain ⟨v, hv, hv2⟩ := at4 (a := 1) (b := 2) (c := 3) (d := 10 ^ (9 : Int).toNat) (i := c / 50 % 4) (by omega) (by omega)
      refine ⟨p, _, _, _, rfl, rfl, SqL.of upd_same, hv, ?_⟩
      exact ⟨_, by omega, by omega, rfl, e1.trans (Evl.Ex.new hp)⟩
    · exact ⟨_, l1, l2, rfl, e1⟩
  rintro σ' H2 ⟨len, l1, l2, rfl, e2⟩
  walk_at "go"
  intro p hp
  walk_at "go"
  obtain ⟨ring, hr⟩ := atRoad (c := c)
  refine ⟨p, _, _, _, rfl, rfl, SqL.of upd_same, hr, ?_⟩
  walk_at "go"
  intro r hr
  have e3 : Ex H (upd H2 p (.lst [V.str "line", V.str "ring"])) := e2.trans (Evl.Ex.new hp)
  exact q ring len r _ l1 l2 (e3.trans (Evl.Ex.new hr)) (Evl.fresh_back e3 hr) upd_same
/-! #### _law_place_by -/
def sp_law_place_by (K : PySem.W.Frag) : Sp := fun vs H Q _ => ∃ (r : Addr) (ring : Bool) (len c : Int), vs = [.ref r, .int c] ∧ SqT K H r (roadV ring len) ∧ 1 ≤ len ∧ ∀ v H', 0 ≤ v → v < placesOf ring len → Ex H H' → Q (.int v) H'
set_option maxHeartbeats 4000000 in
theorem ok_law_place_by (T : Txt K mg D) : FnOk P w K mg base CX0 2 (He.ga K "_law_place_by") (D "_law_place_by") ["_law_road", "_law_cell"] (sp_law_place_by K) := by
  refine T.F_law_place_by.ok sc_law_place_by (fun vs H Q E h => ?_) (fun cdv A outer s H vs Q E hr h => ?_)
  · obtain ⟨_, _, _, _, rfl, _⟩ := h
    rfl
  obtain ⟨r, ring, len, c, rfl, hS, hl, q⟩ := h
  refine ⟨_, PSs.nox (pss_cons (ps_set (i := 2) sc_law_place_by.nd rfl (Or.inl rfl) (pe_call (ok_law_places T) hr rfl T.m_law_places T.F_law_places.kp T.b_law_places .nil pass0 (pa_cons (pv 0) pa_nil)))
    (pss_cons (ps_if (pt_cmpR op_eq (pe_op op_mod (pv 1) pe_int) pe_int (nomark _)) (pss_one (ps_ret (pe_ix ix_list (pe_lst (pa_cons pe_int (pa_cons (pe_op op_sub (pv 2) pe_int) (pa_cons (pe_op op_fdiv (pv 2) pe_int) pa_nil)))) (pe_op op_mod (pe_op op_fdiv (pv 1) pe_int) pe_int) (fun _ _ => rfl)))) pss_nil)
    (pss_one (ps_ret (pe_call (ok_law_wide T) hr rfl T.m_law_wide T.F_law_wide.kp T.b_law_wide .nil pass0 (pa_cons (pe_op op_fdiv (pv 1) pe_int) (pa_cons (pv 2) pa_nil))))))), ?_⟩
  have hm : 1 ≤ placesOf ring len := by unfold placesOf; split <;> omega
  walk_at "go"
  refine ⟨r, ring, len, rfl, hS, ?_⟩
  walk_at "go"
  refine iteB (fun b => ?_) (fun b => ?_)
  · walk_at "go"
    intro p hp
    walk_at "go"
    obtain ⟨v, hv, hv2⟩ := at3 (a := 0) (b := placesOf ring len - 1) (c := placesOf ring len / 2) (i := c / 7 % 3) (by omega) (by omega)
    exact ⟨p, _, _, _, rfl, rfl, SqL.of upd_same, hv, q _ _ (by omega) (by omega) (Evl.Ex.new hp)⟩
  · walk_at "go"
    exact fun v v0 v1 => q _ _ v0 v1 (Ex.refl H)
/-! #### _law_steps -/
def sp_law_steps (K : PySem.W.Frag) : Sp := fun vs H Q _ => ∃ (c : Int), vs = [.int c] ∧ ∀ v H', Ex H H' → Q (.int v) H'
set_option maxHeartbeats 4000000 in
theorem ok_law_steps (T : Txt K mg D) : FnOk P w K mg base CX0 2 (He.ga K "_law_steps") (D "_law_steps") ["_law_cell"] (sp_law_steps K) := by
  refine T.F_law_steps.ok sc_law_steps (fun vs H Q E h => ?_) (fun cdv A outer s H vs Q E hr h => ?_)
  · obtain ⟨_, rfl, _⟩ := h
    rfl
  obtain ⟨c0, rfl, q⟩ := h
  refine ⟨_, PSs.nox (pss_cons (ps_if (pt_cmpR op_eq (pe_op op_mod (pv 0) pe_int) pe_int (nomark _)) (pss_one (ps_ret (pe_op op_mul (pe_op op_mul (pe_call (ok_law_wide T) hr rfl T.m_law_wide T.F_law_wide.kp T.b_law_wide .nil pass0 (pa_cons (pe_op op_fdiv (pv 0) pe_int) (pa_cons (pe_op op_pow pe_int pe_int) pa_nil))) (pe_ix ix_list (pe_lst (pa_cons pe_int (pa_cons (pe_op op_add (pe_op op_pow pe_int pe_int) pe_int) (pa_cons (pe_op op_pow pe_int pe_int) pa_nil)))) (pe_op op_mod (pe_op op_fdiv (pv 0) pe_int) pe_int) (fun _ _ => rfl))) (pe_op op_sub pe_int (pe_op op_mul pe_int (pe_op op_mod (pe_op op_fdiv (pv 0) pe_int) pe_int)))))) pss_nil)
    (pss_one (ps_ret (pe_op op_sub (pe_op op_mod (pe_op op_fdiv (pv 0) pe_int) pe_int) pe_int)))), ?_⟩
  have h15 : (10 : Int) ^ (15 : Int).toNat = 1000000000000000 := by decide +kernel
  walk_at "go"
  refine iteB (fun c => ?_) (fun c => ?_)
  · walk_at "go"
    intro v v0 v1
    rw [h15] at v1
    walk_at "go"
    intro p hp
    walk_at "go"
    obtain ⟨z, hz, hz2⟩ := at3 (a := 1) (b := 10 ^ (15 : Int).toNat + 7) (c := 10 ^ (60 : Int).toNat) (i := c0 / 6 % 3) (by omega) (by omega)
    refine ⟨p, _, _, _, rfl, rfl, SqL.of upd_same, hz, ?_⟩
    refine ⟨_, _, rfl, rfl, Or.inl ⟨by omega, by omega⟩, ?_⟩
    walk_at "go"
    refine ⟨Or.inr ⟨by show -(2 ^ 64) < 1 - 2 * (c0 / 3 % 2); omega, by show 1 - 2 * (c0 / 3 % 2) < 2 ^ 64; omega⟩, ?_⟩
    exact q _ _ (Evl.Ex.new hp)
  · walk_at "go"
    exact q _ _ (Ex.refl H)
/-! #### _law_moved_by_class -/
def cameTo (ring : Bool) (len x : Int) (v : V) : Prop := (∃ z, v = .int z ∧ movedTo ring len x z) ∨ (v = .non ∧ ring = false ∧ ¬ (0 ≤ x ∧ x ≤ len))
def sp_law_moved_by_class (K : PySem.W.Frag) : Sp := fun vs H Q _ => ∃ (r : Addr) (ring : Bool) (len place by_ : Int), vs = [.ref r, .int place, .int by_] ∧ SqT K H r (roadV ring len) ∧ 0 < len ∧ ∀ x, cameTo ring len (place + by_) x → Q x H
set_option maxHeartbeats 4000000 in
theorem ok_law_moved_by_class (T : Txt K mg D) : FnOk P w K mg base CX0 3 (He.ga K "_law_moved_by_class") (D "_law_moved_by_class") ["_law_road", "_law_place", "_law_by"] (sp_law_moved_by_class K) := by
  refine T.F_law_moved_by_class.ok sc_law_moved_by_class (fun vs H Q E h => ?_) (fun cdv A outer s H vs Q E hr h => ?_)
  · obtain ⟨_, _, _, _, _, rfl, _⟩ := h
    rfl
  obtain ⟨r, ring, len, place, by_, rfl, hS, hl, q⟩ := h
  refine ⟨_, PSs.nox (pss_one (ps_try_only (Wout := fun _ _ _ _ => False) rfl rfl ⟨rfl, by decide, Or.inl T.m_OffRoad⟩ takes0
      (fun W pn xe tk po => (by refine pss_eq (pss_one (ps_ret (pe_callS (ok_moved T) hr rfl T.m_moved T.F_moved.kp T.b_moved (fun σ => passAt tk σ) (by exact (pa_cons (pv 0) (pa_cons (pv 1) (pa_cons (pv 2) pa_nil))))))) ?_; first | (dsimp only [L2.Cx.suite, L2.Cx.tr]; done) | (dsimp only [L2.Cx.suite, L2.Cx.tr]; rfl) | rfl))
      (fun a oe cls d pn _ _ => (by refine pss_eq (pss_one (ps_ret pe_non)) ?_; first | (dsimp only [L2.Cx.suite, L2.Cx.tr]; done) | (dsimp only [L2.Cx.suite, L2.Cx.tr]; rfl) | rfl)))), ?_⟩
  walk_at "go"
  exact ⟨r, ring, len, place, by_, rfl, hS, hl, fun v hv => q _ (Or.inl ⟨v, rfl, hv⟩), fun h1 h2 => ⟨true, T.e_OffRoad_OffRoad, fun _ a _ => q _ (Or.inr ⟨rfl, h1, h2⟩), fun z => Bool.noConfusion z⟩⟩
/-! #### _law_moved_by_base -/
def sp_law_moved_by_base (K : PySem.W.Frag) : Sp := fun vs H Q _ => ∃ (r : Addr) (ring : Bool) (len place by_ : Int), vs = [.ref r, .int place, .int by_] ∧ SqT K H r (roadV ring len) ∧ 0 < len ∧ ∀ x, cameTo ring len (place + by_) x → Q x H
set_option maxHeartbeats 4000000 in
theorem ok_law_moved_by_base (T : Txt K mg D) : FnOk P w K mg base CX0 3 (He.ga K "_law_moved_by_base") (D "_law_moved_by_base") ["_law_road", "_law_place", "_law_by"] (sp_law_moved_by_base K) := by
  refine T.F_law_moved_by_base.ok sc_law_moved_by_base (fun vs H Q E h => ?_) (fun cdv A outer s H vs Q E hr h => ?_)
  · obtain ⟨_, _, _, _, _, rfl, _⟩ := h
    rfl
  obtain ⟨r, ring, len, place, by_, rfl, hS, hl, q⟩ := h
  refine ⟨_, PSs.nox (pss_one (ps_try_as (i := 3) (Wout := fun _ _ _ _ => False) rfl rfl sc_law_moved_by_base.nd rfl rfl ⟨rfl, by decide, Or.inl T.m_RouteError⟩ takes0
      (fun W pn xe tk po => (by refine pss_eq (pss_one (ps_ret (pe_callS (ok_moved T) hr rfl T.m_moved T.F_moved.kp T.b_moved (fun σ => passAt tk σ) (by exact (pa_cons (pv 0) (pa_cons (pv 1) (pa_cons (pv 2) pa_nil))))))) ?_; first | (dsimp only [L2.Cx.suite, L2.Cx.tr]; done) | (dsimp only [L2.Cx.suite, L2.Cx.tr]; rfl) | rfl))
      (fun a oe cls d pn hz hf => (by refine pss_eq (pss_cons (ps_if (pt_val (pe_callB (call_isX hz hf) rfl T.m_isinstance (by decide +kernel) (pa_cons (pv 3) (pa_cons (pe_bltn (v := V.ty "ValueError") (u := Value.type "ValueError") rfl T.m_ValueError (by decide +kernel) rfl) pa_nil)))) (pss_one (ps_ret pe_non)) pss_nil) (pss_one (ps_ret pe_str))) ?_; first | (dsimp only [L2.Cx.suite, L2.Cx.tr]; done) | (dsimp only [L2.Cx.suite, L2.Cx.tr]; rfl) | rfl)))), ?_⟩
  walk_at "go"
  refine ⟨r, ring, len, place, by_, rfl, hS, hl, fun v hv => q _ (Or.inl ⟨v, rfl, hv⟩), fun h1 h2 => ⟨true, T.e_OffRoad_RouteError, fun _ a _ => ?_, fun z => Bool.noConfusion z⟩⟩
  walk_at "go"
  refine ⟨T.ec_OffRoad, _, _, _, rfl, (fun u e => e), T.is_OffRoad_ValueError, ?_⟩
  walk_at "go"
  exact q _ (Or.inr ⟨rfl, h1, h2⟩)
/-! #### law -/
theorem way_leads {len one other : Int} (hn : 1 ≤ len) (b0 : 0 ≤ other) (b1 : other < placesOf true len) : (one + wayOf true len one other) % len = other := by
  have b1' : other < len := b1
  have e : (one + (other - one) % len) % len = other := by
    rw [Int.add_emod, Int.emod_emod, ← Int.add_emod]
    have : one + (other - one) = other := by omega
    rw [this]
    exact Int.emod_eq_of_lt b0 b1'
  unfold wayOf
  rw [if_pos rfl]
  split
  · exact e
  · have e2 : one + ((other - one) % len - len) = one + (other - one) % len - len := by omega
    rw [e2, Int.sub_emod_right]
    exact e
theorem way_line {len one other : Int} : one + wayOf false len one other = other := by
  show one + (other - one) = other
  omega
def dueBy (ring : Bool) (len x : Int) : Int := if ring = true then x % len else x
def sp_law (K : PySem.W.Frag) : Sp := fun vs H Q _ => ∃ (a : Addr) (ns : List Int), vs = [.ref a] ∧ SqL K H a (ns.map V.int) ∧ ns.length ≤ 63 ∧ ∀ H', Q (.bl true) H'
set_option maxHeartbeats 4000000 in
theorem ok_law (T : Txt K mg D) : FnOk P w K mg base CX0 4 (He.ga K "law") (D "law") ["_law_script"] (sp_law K) := by
  refine T.F_law.ok sc_law (fun vs H Q E h => ?_) (fun cdv A outer s H vs Q E hr h => ?_)
  · obtain ⟨_, _, rfl, _⟩ := h
    rfl
  obtain ⟨a, ns, rfl, hS, hn, q⟩ := h
  refine ⟨_, PSs.nox (pss_cons (ps_set (i := 1) sc_law.nd rfl (Or.inl rfl) (pe_call (ok_law_road_by T) (hr.mono (by decide)) rfl T.m_law_road_by T.F_law_road_by.kp T.b_law_road_by .nil pass0 (pa_cons (pe_call (ok_law_cell_at T) (hr.mono (by decide)) rfl T.m_law_cell_at T.F_law_cell_at.kp T.b_law_cell_at .nil pass0 (pa_cons (pv 0) (pa_cons pe_int pa_nil))) pa_nil)))
    (pss_cons (ps_set (i := 2) sc_law.nd rfl (Or.inl rfl) (pe_call (ok_law_place_by T) (hr.mono (by decide)) rfl T.m_law_place_by T.F_law_place_by.kp T.b_law_place_by .nil pass0 (pa_cons (pv 1) (pa_cons (pe_call (ok_law_cell_at T) (hr.mono (by decide)) rfl T.m_law_cell_at T.F_law_cell_at.kp T.b_law_cell_at .nil pass0 (pa_cons (pv 0) (pa_cons pe_int pa_nil))) pa_nil))))
    (pss_cons (ps_set (i := 3) sc_law.nd rfl (Or.inl rfl) (pe_call (ok_law_across T) (hr.mono (by decide)) rfl T.m_law_across T.F_law_across.kp T.b_law_across .nil pass0 (pa_cons (pv 1) (pa_cons (pv 2) (pa_cons (pe_call (ok_law_place_by T) (hr.mono (by decide)) rfl T.m_law_place_by T.F_law_place_by.kp T.b_law_place_by .nil pass0 (pa_cons (pv 1) (pa_cons (pe_call (ok_law_cell_at T) (hr.mono (by decide)) rfl T.m_law_cell_at T.F_law_cell_at.kp T.b_law_cell_at .nil pass0 (pa_cons (pv 0) (pa_cons pe_int pa_nil))) pa_nil))) (pa_cons (pe_call (ok_law_cell_at T) (hr.mono (by decide)) rfl T.m_law_cell_at T.F_law_cell_at.kp T.b_law_cell_at .nil pass0 (pa_cons (pv 0) (pa_cons pe_int pa_nil))) pa_nil))))))
    (pss_cons (ps_set (i := 4) sc_law.nd rfl (Or.inl rfl) (pe_call (ok_way T) (hr.mono (by decide)) rfl T.m_way T.F_way.kp T.b_way .nil pass0 (pa_cons (pv 1) (pa_cons (pv 2) (pa_cons (pv 3) pa_nil)))))
    (pss_cons (ps_if (PW.pt (pw_or (pt_not (pt_val (pe_call (ok_law_whole T) (hr.mono (by decide)) rfl T.m_law_whole T.F_law_whole.kp T.b_law_whole .nil pass0 (pa_cons (pv 4) pa_nil)))) (pw_or (pt_cmpR op_ne (pv 4) (pe_call (ok_law_way T) (hr.mono (by decide)) rfl T.m_law_way T.F_law_way.kp T.b_law_way .nil pass0 (pa_cons (pv 1) (pa_cons (pv 2) (pa_cons (pv 3) pa_nil)))) (nomark _)) (pw_or1 (pt_cmpR op_ne (pe_call (ok_moved T) (hr.mono (by decide)) rfl T.m_moved T.F_moved.kp T.b_moved .nil passL (pa_cons (pv 1) (pa_cons (pv 2) (pa_cons (pv 4) pa_nil)))) (pv 3) (nomark _)))))) (pss_one (ps_ret pe_bl)) pss_nil)
    (pss_cons (ps_set (i := 5) sc_law.nd rfl (Or.inl rfl) (pe_call (ok_law_steps T) (hr.mono (by decide)) rfl T.m_law_steps T.F_law_steps.kp T.b_law_steps .nil pass0 (pa_cons (pe_call (ok_law_cell_at T) (hr.mono (by decide)) rfl T.m_law_cell_at T.F_law_cell_at.kp T.b_law_cell_at .nil pass0 (pa_cons (pv 0) (pa_cons pe_int pa_nil))) pa_nil)))
    (pss_cons (ps_set (i := 6) sc_law.nd rfl (Or.inl rfl) (pe_op op_add (pv 2) (pv 5)))
    (Evl.pss_cut (ps_if (pt_cmpR op_eq (pe_ix ix_tup (pv 1) pe_int (fun _ _ => rfl)) pe_str (nomark _)) (pss_one (ps_set (i := 6) sc_law.nd rfl (Or.inl rfl) (pe_op op_mod (pv 6) (pe_ix ix_tup (pv 1) pe_int (fun _ _ => rfl))))) pss_nil)
    (pss_cons (ps_set (i := 4) sc_law.nd rfl (Or.inl rfl) (pe_call (ok_law_moved_by_class T) hr rfl T.m_law_moved_by_class T.F_law_moved_by_class.kp T.b_law_moved_by_class .nil pass0 (pa_cons (pv 1) (pa_cons (pv 2) (pa_cons (pv 5) pa_nil)))))
    (pss_cons (ps_set (i := 7) sc_law.nd rfl (Or.inl rfl) (pe_call (ok_law_moved_by_base T) hr rfl T.m_law_moved_by_base T.F_law_moved_by_base.kp T.b_law_moved_by_base .nil pass0 (pa_cons (pv 1) (pa_cons (pv 2) (pa_cons (pv 5) pa_nil)))))
    (pss_cons (ps_if (PW.pt (pw_and (pt_cmpR op_eq (pe_ix ix_tup (pv 1) pe_int (fun _ _ => rfl)) pe_str (nomark _)) (pw_and1 (pt_not (pt_chain op_le op_le pe_int (pv 6) (pe_ix ix_tup (pv 1) pe_int (fun _ _ => rfl))))))) (pss_one (ps_ret (pe_and (pe_cmpR op_isN1 (pv 4) pe_non (nomark _)) (pe_one (pe_cmpR op_isN1 (pv 7) pe_non (nomark _)))))) pss_nil)
    (pss_one (ps_ret (pe_and (pe_call (ok_law_whole T) (hr.mono (by decide)) rfl T.m_law_whole T.F_law_whole.kp T.b_law_whole .nil pass0 (pa_cons (pv 4) pa_nil)) (pe_and (pe_cmpR op_eq (pv 4) (pv 6) (nomark _)) (pe_one (pe_cmpR op_eq (pv 7) (pv 6) (nomark _)))))))))))))))))), ?_⟩
  walk_at "go"
  refine ⟨a, ns, 0, rfl, hS, hn, fun c0 => ⟨c0, rfl, fun ring len r H1 l1 l2 e1 _ hr => ?_⟩⟩
  walk_at "go"
  refine ⟨a, ns, 1, rfl, Evl.ex_l e1 hS, hn, fun c1 => ⟨r, ring, len, c1, rfl, SqT.of hr, l1, fun one H2 one0 one1 e2 => ?_⟩⟩
  walk_at "go"
  refine ⟨a, ns, 2, rfl, Evl.ex_l (e1.trans e2) hS, hn, fun c2 => ⟨r, ring, len, c2, rfl, SqT.of (e2 _ _ hr), l1, fun oth H3 oth0 oth1 e3 => ?_⟩⟩
  walk_at "go"
  have hR3 : SqT K H3 r (roadV ring len) := SqT.of (e3 _ _ (e2 _ _ hr))
  refine ⟨a, ns, 3, rfl, Evl.ex_l ((e1.trans e2).trans e3) hS, hn, fun c3 => ⟨r, ring, len, one, oth, c3, rfl, hR3, l1, ⟨oth0, oth1⟩, fun other other0 other1 => ?_⟩⟩
  walk_at "go"
  refine ⟨r, ring, len, one, other, rfl, hR3, by omega, ?_⟩
  walk_at "go"
  refine Or.inl ⟨_, rfl, ?_⟩
  walk_at "go"
  refine ⟨r, ring, len, one, other, rfl, hR3, l1, ?_⟩
  rw [way_is l1 one0 one1 other0 other1]
  walk_at "go"
  refine iteFb (neSelf rfl) ?_
  walk_at "go"
  refine ⟨r, ring, len, one, _, rfl, hR3, by omega, fun v hv => ?_, fun h1 h2 => ?_⟩
  case refine_2 =>
    subst h1
    rw [way_line] at h2
    exact absurd ⟨other0, by have : placesOf false len = len + 1 := rfl; omega⟩ h2
  have hv' : other = v := by
    refine Eq.symm ?_
    rcases hv with ⟨h, hv⟩ | ⟨h, _, _, hv⟩
    · subst h
      rw [hv, way_leads l1 other0 other1]
    · subst h
      rw [hv, way_line]
  subst hv'
  walk_at "go"
  refine iteFb (neSelf rfl) ?_
  walk_at "go"
  refine ⟨a, ns, 4, rfl, Evl.ex_l ((e1.trans e2).trans e3) hS, hn, fun c4 => ⟨c4, rfl, fun by_ H4 e4 => ?_⟩⟩
  have hR4 : SqT K H4 r (roadV ring len) := Evl.ex_t e4 hR3
  walk_at "go"
  refine ⟨fun σ' H' => H' = H4 ∧ σ' = [some (V.ref a), some (V.ref r), some (V.int one), some (V.int other), some (V.int (wayOf ring len one other)), some (V.int by_), some (V.int (dueBy ring len (one + by_))), none], ?_, ?_⟩
  · walk_at "go"
    refine iteB (fun c => ?_) (fun c => ?_)
    · have hr := (word_ring ring).mp (of_decide_eq_true c)
      subst hr
      walk_at "go"
      rfl
    · have hr : ring = false := by
        cases ring with
        | false => rfl
        | true => exact absurd ((word_ring true).mpr rfl) (of_decide_eq_false c)
      subst hr
      exact ⟨rfl, rfl⟩
  rintro σ' H5 ⟨rfl, rfl⟩
  walk_at "go"
  refine ⟨r, ring, len, one, by_, rfl, hR4, by omega, fun x hx => ?_⟩
  walk_at "go"
  refine ⟨r, ring, len, one, by_, rfl, hR4, by omega, fun y hy => ?_⟩
  walk_at "go"
  rcases hx with ⟨z, rfl, hz⟩ | ⟨rfl, h1, h2⟩
  · have hd : z = dueBy ring len (one + by_) := by
      unfold dueBy
      rcases hz with ⟨h, hz⟩ | ⟨h, _, _, hz⟩ <;> subst h <;> rw [hz] <;> rfl
    have hy' : y = .int z := by
      rcases hy with ⟨z', rfl, hz'⟩ | ⟨rfl, h1, h2⟩
      · refine congrArg V.int ?_
        rcases hz with ⟨h, hz⟩ | ⟨h, _, _, hz⟩ <;> rcases hz' with ⟨h', hz'⟩ | ⟨h', _, _, hz'⟩ <;> rw [hz, hz'] <;> (rw [h] at h'; cases h')
      · rcases hz with ⟨h, hz⟩ | ⟨h, g1, g2, hz⟩
        · rw [h] at h1; cases h1
        · exact absurd ⟨g1, g2⟩ h2
    subst hy'
    rw [← hd]
    refine iteB (fun c => ?_) (fun c => ?_)
    · have hr := (word_line ring).mp (of_decide_eq_true c)
      subst hr
      have hz2 : 0 ≤ z ∧ z ≤ len := by
        rcases hz with ⟨h, hz⟩ | ⟨h, g1, g2, hz⟩
        · cases h
        · omega
      walk_at "go"
      refine iteTb (decide_eq_true hz2.1) ?_
      walk_at "go"
      refine iteFb (by rw [decide_eq_true hz2.2]; rfl) ?_
      walk_at "go"
      refine Or.inl ⟨_, rfl, ?_⟩
      walk_at "go"
      refine iteTb dself ?_
      walk_at "go"
      rw [dself]
      exact q _
    · walk_at "go"
      refine Or.inl ⟨_, rfl, ?_⟩
      walk_at "go"
      refine iteTb dself ?_
      walk_at "go"
      rw [dself]
      exact q _
  · have hy' : y = .non := by
      rcases hy with ⟨z', rfl, hz'⟩ | ⟨rfl, h1, h2⟩
      · rcases hz' with ⟨h, hz⟩ | ⟨h, g1, g2, hz⟩
        · rw [h] at h1; cases h1
        · exact absurd ⟨g1, g2⟩ h2
      · rfl
    subst hy'
    subst h1
    have hd : dueBy false len (one + by_) = one + by_ := rfl
    rw [hd]
    refine iteTb (decide_eq_true ((word_line false).mpr rfl)) ?_
    walk_at "go"
    refine iteB (fun c1 => ?_) (fun c1 => ?_)
    · walk_at "go"
      refine iteTb (by rw [decide_eq_false (fun z => h2 ⟨of_decide_eq_true c1, z⟩)]; rfl) ?_
      walk_at "go"
      exact q _
    · walk_at "go"
      exact q _
end

/-! ### the head -/
def d_has_place : He.DefD := ⟨("has_place", none), "has_place", "has_place", defArgs s_has_place, defBody s_has_place, defScope s_has_place, [], []⟩
def d_way : He.DefD := ⟨("way", none), "way", "way", defArgs s_way, defBody s_way, defScope s_way, [], []⟩
def d_moved : He.DefD := ⟨("moved", none), "moved", "moved", defArgs s_moved, defBody s_moved, defScope s_moved, [], []⟩
def d_law_cell_at : He.DefD := ⟨("_law_cell_at", none), "_law_cell_at", "_law_cell_at", defArgs s_law_cell_at, defBody s_law_cell_at, defScope s_law_cell_at, [], []⟩
def d_law_wide : He.DefD := ⟨("_law_wide", none), "_law_wide", "_law_wide", defArgs s_law_wide, defBody s_law_wide, defScope s_law_wide, [], []⟩
def d_law_whole : He.DefD := ⟨("_law_whole", none), "_law_whole", "_law_whole", defArgs s_law_whole, defBody s_law_whole, defScope s_law_whole, [], []⟩
def d_law_road_by : He.DefD := ⟨("_law_road_by", none), "_law_road_by", "_law_road_by", defArgs s_law_road_by, defBody s_law_road_by, defScope s_law_road_by, [], []⟩
def d_law_places : He.DefD := ⟨("_law_places", none), "_law_places", "_law_places", defArgs s_law_places, defBody s_law_places, defScope s_law_places, [], []⟩
def d_law_place_by : He.DefD := ⟨("_law_place_by", none), "_law_place_by", "_law_place_by", defArgs s_law_place_by, defBody s_law_place_by, defScope s_law_place_by, [], []⟩
def d_law_across : He.DefD := ⟨("_law_across", none), "_law_across", "_law_across", defArgs s_law_across, defBody s_law_across, defScope s_law_across, [], []⟩
def d_law_way : He.DefD := ⟨("_law_way", none), "_law_way", "_law_way", defArgs s_law_way, defBody s_law_way, defScope s_law_way, [], []⟩
def d_law_steps : He.DefD := ⟨("_law_steps", none), "_law_steps", "_law_steps", defArgs s_law_steps, defBody s_law_steps, defScope s_law_steps, [], []⟩
def d_law_moved_by_class : He.DefD := ⟨("_law_moved_by_class", none), "_law_moved_by_class", "_law_moved_by_class", defArgs s_law_moved_by_class, defBody s_law_moved_by_class, defScope s_law_moved_by_class, [], []⟩
def d_law_moved_by_base : He.DefD := ⟨("_law_moved_by_base", none), "_law_moved_by_base", "_law_moved_by_base", defArgs s_law_moved_by_base, defBody s_law_moved_by_base, defScope s_law_moved_by_base, [], []⟩
def d_law : He.DefD := ⟨("law", none), "law", "law", defArgs s_law, defBody s_law, defScope s_law, [], []⟩
def fn : List He.DefD := [d_has_place, d_way, d_moved, d_law_cell_at, d_law_wide, d_law_whole, d_law_road_by, d_law_places, d_law_place_by, d_law_across, d_law_way, d_law_steps, d_law_moved_by_class, d_law_moved_by_base, d_law]
abbrev fa : List He.Fa := [.glo "has_place", .glo "way", .glo "moved", .glo "_law_cell_at", .glo "_law_wide", .glo "_law_whole", .glo "_law_road_by", .glo "_law_places", .glo "_law_place_by", .glo "_law_across", .glo "_law_way", .glo "_law_steps", .glo "_law_moved_by_class", .glo "_law_moved_by_base", .glo "law", .glo "RouteError", .exc "RouteError", .glo "OffRoad", .exc "OffRoad", .exm "OffRoad" "OffRoad" true, .exm "OffRoad" "RouteError" true, .str "LINE" "line", .str "RING" "ring", .free "len", .free "isinstance", .free "int", .free "bool", .free "ValueError"]
def exl (K : PySem.W.Frag) : List Bool := [excCB K (He.ga K "OffRoad"), decide (PySem.W.kitOne K (.ref (He.ga K "OffRoad")) (.type "ValueError") = some true)]
def ex (K : PySem.W.Frag) : Bool := (exl K).all id
theorem exAt {K : PySem.W.Frag} (h : ex K = true) (i : Nat) {b : Bool} (e : (exl K)[i]? = some b) : b = true := List.all_eq_true.mp h b (List.mem_of_getElem? e)
abbrev R : PySem.W.OpenRow := PySem.W.OpenLaw.row PySem.Challenge.rw_routevan_k02_ways_lead
abbrev hk : PySem.W.Hook := He.hookX 6 fa fn [] [] ex
def ob (s : PySem.W.SharedT) : He.AlX := He.obsX 6 fa fn [] [] ex (HandSHeadRun.getT s)
theorem ob_eq (s : PySem.W.SharedT) : ob s = hk.obs s.abs := He.obsX_eq (HandSHeadRun.getT_eq s)
def names : List Str := [("RouteError" : Str), ("OffRoad" : Str), ("LINE" : Str), ("RING" : Str), ("has_place" : Str), ("way" : Str), ("moved" : Str), ("_law_cell_at" : Str), ("_law_wide" : Str), ("_law_whole" : Str), ("_law_road_by" : Str), ("_law_places" : Str), ("_law_place_by" : Str), ("_law_across" : Str), ("_law_way" : Str), ("_law_steps" : Str), ("_law_moved_by_class" : Str), ("_law_moved_by_base" : Str)]
theorem run (w : World) : HandSHeadRun.RunEq R (PySem.W.view R.prog [21]) hk ob 3000 names w := by
  intro os
  kernel_rfl
theorem facts {P : Program} {w : World} {K : PySem.W.Frag} {h : Heap} {mg : Str → Option Value} {f : Addr} (KX : K.In h) (G : h.Ns mainGlobals mg) (hfa : mg ("law" : Str) = some (.ref f)) (c : He.SaysD fa fn K) (hx : ex K = true) :
    ∃ fd : FuncData, (∀ (s : Shared) (v : Value), BindsTo s fd ⟨[v], []⟩ [("_law_script", v)]) ∧ ∀ base : Heap, K.In base → base.Ns mainGlobals mg → FnOk P w K mg base CX0 4 f fd ["_law_script"] (sp_law K) := by
  obtain ⟨fd0, F0⟩ := c.def_ 0 (d := d_has_place) rfl
  obtain ⟨fd1, F1⟩ := c.def_ 1 (d := d_way) rfl
  obtain ⟨fd2, F2⟩ := c.def_ 2 (d := d_moved) rfl
  obtain ⟨fd3, F3⟩ := c.def_ 3 (d := d_law_cell_at) rfl
  obtain ⟨fd4, F4⟩ := c.def_ 4 (d := d_law_wide) rfl
  obtain ⟨fd5, F5⟩ := c.def_ 5 (d := d_law_whole) rfl
  obtain ⟨fd6, F6⟩ := c.def_ 6 (d := d_law_road_by) rfl
  obtain ⟨fd7, F7⟩ := c.def_ 7 (d := d_law_places) rfl
  obtain ⟨fd8, F8⟩ := c.def_ 8 (d := d_law_place_by) rfl
  obtain ⟨fd9, F9⟩ := c.def_ 9 (d := d_law_across) rfl
  obtain ⟨fd10, F10⟩ := c.def_ 10 (d := d_law_way) rfl
  obtain ⟨fd11, F11⟩ := c.def_ 11 (d := d_law_steps) rfl
  obtain ⟨fd12, F12⟩ := c.def_ 12 (d := d_law_moved_by_class) rfl
  obtain ⟨fd13, F13⟩ := c.def_ 13 (d := d_law_moved_by_base) rfl
  obtain ⟨fd14, F14⟩ := c.def_ 14 (d := d_law) rfl
  let D : Str → FuncData := fun x => ([(("has_place" : Str), fd0), (("way" : Str), fd1), (("moved" : Str), fd2), (("_law_cell_at" : Str), fd3), (("_law_wide" : Str), fd4), (("_law_whole" : Str), fd5), (("_law_road_by" : Str), fd6), (("_law_places" : Str), fd7), (("_law_place_by" : Str), fd8), (("_law_across" : Str), fd9), (("_law_way" : Str), fd10), (("_law_steps" : Str), fd11), (("_law_moved_by_class" : Str), fd12), (("_law_moved_by_base" : Str), fd13), (("law" : Str), fd14)].lookup x).getD fd14
  have T : Txt K mg D := {
    F_has_place := F0,
    m_has_place := He.glo_ok KX G (c.fact 0 (f := (.glo "has_place")) rfl),
    b_has_place := F0.bindsN fun _ _ _ _ _ _ us hl => match us, hl with | [_, _], _ => rfl,
    F_way := F1,
    m_way := He.glo_ok KX G (c.fact 1 (f := (.glo "way")) rfl),
    b_way := F1.bindsN fun _ _ _ _ _ _ us hl => match us, hl with | [_, _, _], _ => rfl,
    F_moved := F2,
    m_moved := He.glo_ok KX G (c.fact 2 (f := (.glo "moved")) rfl),
    b_moved := F2.bindsN fun _ _ _ _ _ _ us hl => match us, hl with | [_, _, _], _ => rfl,
    F_law_cell_at := F3,
    m_law_cell_at := He.glo_ok KX G (c.fact 3 (f := (.glo "_law_cell_at")) rfl),
    b_law_cell_at := F3.bindsN fun _ _ _ _ _ _ us hl => match us, hl with | [_, _], _ => rfl,
    F_law_wide := F4,
    m_law_wide := He.glo_ok KX G (c.fact 4 (f := (.glo "_law_wide")) rfl),
    b_law_wide := F4.bindsN fun _ _ _ _ _ _ us hl => match us, hl with | [_, _], _ => rfl,
    F_law_whole := F5,
    m_law_whole := He.glo_ok KX G (c.fact 5 (f := (.glo "_law_whole")) rfl),
    b_law_whole := F5.bindsN fun _ _ _ _ _ _ us hl => match us, hl with | [_], _ => rfl,
    F_law_road_by := F6,
    m_law_road_by := He.glo_ok KX G (c.fact 6 (f := (.glo "_law_road_by")) rfl),
    b_law_road_by := F6.bindsN fun _ _ _ _ _ _ us hl => match us, hl with | [_], _ => rfl,
    F_law_places := F7,
    m_law_places := He.glo_ok KX G (c.fact 7 (f := (.glo "_law_places")) rfl),
    b_law_places := F7.bindsN fun _ _ _ _ _ _ us hl => match us, hl with | [_], _ => rfl,
    F_law_place_by := F8,
    m_law_place_by := He.glo_ok KX G (c.fact 8 (f := (.glo "_law_place_by")) rfl),
    b_law_place_by := F8.bindsN fun _ _ _ _ _ _ us hl => match us, hl with | [_, _], _ => rfl,
    F_law_across := F9,
    m_law_across := He.glo_ok KX G (c.fact 9 (f := (.glo "_law_across")) rfl),
    b_law_across := F9.bindsN fun _ _ _ _ _ _ us hl => match us, hl with | [_, _, _, _], _ => rfl,
    F_law_way := F10,
    m_law_way := He.glo_ok KX G (c.fact 10 (f := (.glo "_law_way")) rfl),
    b_law_way := F10.bindsN fun _ _ _ _ _ _ us hl => match us, hl with | [_, _, _], _ => rfl,
    F_law_steps := F11,
    m_law_steps := He.glo_ok KX G (c.fact 11 (f := (.glo "_law_steps")) rfl),
    b_law_steps := F11.bindsN fun _ _ _ _ _ _ us hl => match us, hl with | [_], _ => rfl,
    F_law_moved_by_class := F12,
    m_law_moved_by_class := He.glo_ok KX G (c.fact 12 (f := (.glo "_law_moved_by_class")) rfl),
    b_law_moved_by_class := F12.bindsN fun _ _ _ _ _ _ us hl => match us, hl with | [_, _, _], _ => rfl,
    F_law_moved_by_base := F13,
    m_law_moved_by_base := He.glo_ok KX G (c.fact 13 (f := (.glo "_law_moved_by_base")) rfl),
    b_law_moved_by_base := F13.bindsN fun _ _ _ _ _ _ us hl => match us, hl with | [_, _, _], _ => rfl,
    F_law := F14,
    m_law := He.glo_ok KX G (c.fact 14 (f := (.glo "law")) rfl),
    b_law := F14.bindsN fun _ _ _ _ _ _ us hl => match us, hl with | [_], _ => rfl,
    m_RouteError := He.glo_ok KX G (c.fact 15 (f := (.glo "RouteError")) rfl),
    x_RouteError := (He.exc_ok (c.fact 16 (f := (.exc "RouteError")) rfl)).1,
    kp_RouteError := (He.exc_ok (c.fact 16 (f := (.exc "RouteError")) rfl)).2.1,
    sb_RouteError := (He.exc_ok (c.fact 16 (f := (.exc "RouteError")) rfl)).2.2.1,
    ty_RouteError := (He.exc_ok (c.fact 16 (f := (.exc "RouteError")) rfl)).2.2.2,
    m_OffRoad := He.glo_ok KX G (c.fact 17 (f := (.glo "OffRoad")) rfl),
    x_OffRoad := (He.exc_ok (c.fact 18 (f := (.exc "OffRoad")) rfl)).1,
    kp_OffRoad := (He.exc_ok (c.fact 18 (f := (.exc "OffRoad")) rfl)).2.1,
    sb_OffRoad := (He.exc_ok (c.fact 18 (f := (.exc "OffRoad")) rfl)).2.2.1,
    ty_OffRoad := (He.exc_ok (c.fact 18 (f := (.exc "OffRoad")) rfl)).2.2.2,
    e_OffRoad_OffRoad := He.exm_ok (c.fact 19 (f := (.exm "OffRoad" "OffRoad" true)) rfl),
    e_OffRoad_RouteError := He.exm_ok (c.fact 20 (f := (.exm "OffRoad" "RouteError" true)) rfl),
    c_LINE := (fun ⟨t, e⟩ => ⟨_, e, t, rfl⟩) (He.str_ok KX G (c.fact 21 (f := (.str "LINE" "line")) rfl)),
    c_RING := (fun ⟨t, e⟩ => ⟨_, e, t, rfl⟩) (He.str_ok KX G (c.fact 22 (f := (.str "RING" "ring")) rfl)),
    m_len := He.free_ok KX G (c.fact 23 (f := (.free "len")) rfl),
    m_isinstance := He.free_ok KX G (c.fact 24 (f := (.free "isinstance")) rfl),
    m_int := He.free_ok KX G (c.fact 25 (f := (.free "int")) rfl),
    m_bool := He.free_ok KX G (c.fact 26 (f := (.free "bool")) rfl),
    m_ValueError := He.free_ok KX G (c.fact 27 (f := (.free "ValueError")) rfl),
    ec_OffRoad := excCB_ok (exAt hx 0 rfl),
    is_OffRoad_ValueError := of_decide_eq_true (exAt hx 1 rfl)
  }
  have e := hfa.symm.trans T.m_law
  cases e
  have b := FunD.bindsA (ps := ["_law_script"]) F14 fun _ _ _ _ _ _ us hl => match us, hl with | [_], _ => rfl
  exact ⟨fd14, fun s v => b s [v] rfl, fun base _ _ => ok_law T⟩
end RV
open PySem PySem.W PySem.Calls PyProof.Rows
set_option maxRecDepth 100000 in
set_option maxHeartbeats 0 in
theorem PySem.Challenge.cw_routevan_k02_ways_lead_holds : PySem.Challenge.rw_routevan_k02_ways_lead.Holds := by
  w_on; o_law
  refine HandSHeadRun.head_any (r := OpenLaw.row PySem.Challenge.rw_routevan_k02_ways_lead) (q := view (OpenLaw.row PySem.Challenge.rw_routevan_k02_ways_lead).prog [21]) (H := RV.hk) (ob := RV.ob) (M := 3000) (loose := RV.names) (d := HandSHeadRun.topDef (OpenLaw.row PySem.Challenge.rw_routevan_k02_ways_lead).prog 21) (kwd := []) RV.ob_eq
    (by kernel_rfl) (fun s => by kernel_rfl) RV.run (by kernel_rfl) (by kernel_rfl) (by kernel_rfl) (by rfl) (by first | assumption | decide +kernel) (by decide +kernel) ⟨rfl, rfl, rfl, rfl, rfl, by decide +kernel⟩ ?hw ?hc
  case hw => w_witness2
  case hc =>
    refine L2.walk_ofE (l := PySem.Challenge.rw_routevan_k02_ways_lead) (n := 63) (k := 4) (x := "_law_script") (CX := L2.CX0) rfl (by decide) (by kernel_rfl) ⟨rfl, by decide, by decide⟩ ?F (fun _ _ _ _ z => z)
    intro w mg fa h Y G hmg0
    obtain ⟨K, KX, c⟩ := Y
    have hmg : mg ("law" : PySem.Str) = some (.ref fa) := by
      have e : (HandSHeadRun.topDef (OpenLaw.row PySem.Challenge.rw_routevan_k02_ways_lead).prog 21).name = ("law" : PySem.Str) := by kernel_rfl
      rw [← e]
      exact hmg0
    obtain ⟨fd, hb, hF⟩ := RV.facts (P := (PySem.Challenge.rw_routevan_k02_ways_lead).prog) (w := w) KX G hmg c.t.d c.more
    exact ⟨K, fd, RV.sp_law K, KX, hb, fun H a ns hl _ hS => ⟨a, ns, rfl, hS, hl, fun _ => rfl⟩, hF⟩

