import PyProof.Rows.All
import Wide.All
import OpenK.AllK
import Wide.FinOn
import KE.KStateDown
import Lean
import HandS.ForMost
import HandS.ForExc
import HandS.More
import HandS.Defaults
import HandS.IsInst
import HandS.ExcIs
import HandS.TryMany
import HandS.Evl
import HandS.Steps
import HandS.Style
import HandS.SetFor
import HandS.Strs
import HandS.Zip
import HandS.Conv
import HandS.Deep
import HandS.Head0
import HandS.Head1
import HandS.Head2
import HandS.HeadEnd
import HandS.HeadHook1
import HandS.HeadHook2
import HandS.HeadHook3
import HandS.HeadHook4
import HandS.HeadWalk
import HandS.TupLen
import HandS.TupAny
import HandS.SortKw
import HandS.Walk
import HandS.RevRange
import HandS.FStr
import HandS.NoneIn
import HandS.StrMore
import PyProof.SliceList
import KE.KDictKeyed
import KE.KDictWalk
import KE.KEqDict
import PyProof.ZipIter
import PyProof.CallType
import PyProof.TupleOfSeq
import PyProof.RulesTry
import KE.GoesComp
import HandS.ReplaceLit
import HandS.Flt
import PyProof.StrOps2
import PySem.Challenge.RW_routevan_k13_texts_refused
set_option Elab.async false
set_option linter.all false
set_option maxRecDepth 100000
set_option maxHeartbeats 2000000
local macro_rules | `(tactic| walk_at "side") => `(tactic| first | decide | omega | assumption | exact ⟨by decide, by decide⟩ | exact Or.inr ⟨by decide, by decide⟩ | exact Or.inl ⟨by decide, by decide⟩ | exact ⟨by omega, by omega⟩ | exact Evl.sz_of (Nat.le_of_ble_eq_true rfl))
local macro_rules | `(tactic| walk_at "seq") => `(tactic| first | assumption | exact L2.SqT.of (by assumption) | exact L2.SqL.of (by assumption))
local macro_rules | `(tactic| walk_at "go") => `(tactic| repeat (first
  | refine ⟨_, rfl, ?_⟩
  | refine ⟨_, _, rfl, rfl, ?_⟩
  | refine ⟨_, _, rfl, ?_⟩
  | refine ⟨rfl, ?_⟩
  | refine And.intro (by walk_at "side") ?_
  | refine ⟨_, _, _, _, rfl, rfl, (by walk_at "seq"), rfl, ?_⟩
  | refine ⟨_, _, rfl, Or.inl (by walk_at "seq"), ?_⟩
  | refine ⟨_, _, rfl, Or.inr (by walk_at "seq"), ?_⟩
  | refine ⟨_, _, rfl, (by walk_at "seq"), rfl, ?_⟩
  | refine ⟨_, _, _, _, rfl, rfl, (by walk_at "seq"), (by assumption), ?_⟩
  | refine ⟨_, _, rfl, (by walk_at "seq"), ?_⟩
  | refine ⟨_, _, _, rfl, (fun u e => e), (by assumption), ?_⟩))
namespace RV
open PySem PySem.Spec PyProof.Rows L2
open Evl (Ex)
open TL (tl ext_tl len_tl mk_tl tl_append tl_ofString tl_num numL numL_digits numL_ne numL_len numL_inj numL_lt numL_step int_num spl split_spl kind_ok map_tl_inj joinL spl_join tl_join join_eq spl_nil spl_last1 spl_part1)

/-! ### the text by places -/
def top (i : Nat) : Stmt := PySem.Challenge.pw_routevan_k13_texts_refused.main.body.getD i (.Pass ⟨0, 0, 0, 0⟩)
abbrev s_is_road : Stmt := top 11
abbrev N_is_road : List Str := ["road", "word", "length"]
theorem sc_is_road : FnScope N_is_road ["road"] (defScope s_is_road) := ⟨rfl, rfl, rfl, by decide +kernel, rfl, by decide +kernel, by decide +kernel⟩
abbrev s_has_place : Stmt := top 12
abbrev N_has_place : List Str := ["road", "place", "word", "length"]
theorem sc_has_place : FnScope N_has_place ["road", "place"] (defScope s_has_place) := ⟨rfl, rfl, rfl, by decide +kernel, rfl, by decide +kernel, by decide +kernel⟩
abbrev s_is_time : Stmt := top 16
abbrev N_is_time : List Str := ["number"]
theorem sc_is_time : FnScope N_is_time ["number"] (defScope s_is_time) := ⟨rfl, rfl, rfl, by decide +kernel, rfl, by decide +kernel, by decide +kernel⟩
abbrev s_check_stop : Stmt := top 17
abbrev N_check_stop : List Str := ["road", "stop", "place", "opens", "closes", "stay"]
theorem sc_check_stop : FnScope N_check_stop ["road", "stop"] (defScope s_check_stop) := ⟨rfl, rfl, rfl, by decide +kernel, rfl, by decide +kernel, by decide +kernel⟩
abbrev s_check_day : Stmt := top 18
abbrev N_check_day : List Str := ["road", "home", "start", "stops", "stop"]
theorem sc_check_day : FnScope N_check_day ["road", "home", "start", "stops"] (defScope s_check_day) := ⟨rfl, rfl, rfl, by decide +kernel, rfl, by decide +kernel, by decide +kernel⟩
abbrev s_Day___init : Stmt := inClass (top 19) 0
abbrev N_Day___init : List Str := ["self", "road", "home", "start", "stops"]
theorem sc_Day___init : FnScope N_Day___init ["self", "road", "home", "start", "stops"] (defScope s_Day___init) := ⟨rfl, rfl, rfl, by decide +kernel, rfl, by decide +kernel, by decide +kernel⟩
abbrev s_number_of : Stmt := top 25
abbrev N_number_of : List Str := ["word", "sign"]
theorem sc_number_of : FnScope N_number_of ["word"] (defScope s_number_of) := ⟨rfl, rfl, rfl, by decide +kernel, rfl, by decide +kernel, by decide +kernel⟩
abbrev s_numbers_of : Stmt := top 26
abbrev N_numbers_of : List Str := ["row", "names", "words", "word"]
theorem sc_numbers_of : FnScope N_numbers_of ["row", "names"] (defScope s_numbers_of) := ⟨rfl, rfl, rfl, by decide +kernel, rfl, by decide +kernel, by decide +kernel⟩
abbrev s_road_of : Stmt := top 27
abbrev N_road_of : List Str := ["row", "word"]
theorem sc_road_of : FnScope N_road_of ["row"] (defScope s_road_of) := ⟨rfl, rfl, rfl, by decide +kernel, rfl, by decide +kernel, by decide +kernel⟩
abbrev s_read : Stmt := top 28
abbrev N_read : List Str := ["text", "rows", "road", "home", "start", "stops", "row"]
theorem sc_read : FnScope N_read ["text"] (defScope s_read) := ⟨rfl, rfl, rfl, by decide +kernel, rfl, by decide +kernel, by decide +kernel⟩
abbrev s_law_cell_at : Stmt := top 30
abbrev N_law_cell_at : List Str := ["_law_script", "_law_k"]
theorem sc_law_cell_at : FnScope N_law_cell_at ["_law_script", "_law_k"] (defScope s_law_cell_at) := ⟨rfl, rfl, rfl, by decide +kernel, rfl, by decide +kernel, by decide +kernel⟩
abbrev s_law_spoilt : Stmt := top 31
abbrev N_law_spoilt : List Str := ["_law_text", "_law_cell", "_law_by", "_law_at", "_law_signs", "_law_sign"]
theorem sc_law_spoilt : FnScope N_law_spoilt ["_law_text", "_law_cell", "_law_by"] (defScope s_law_spoilt) := ⟨rfl, rfl, rfl, by decide +kernel, rfl, by decide +kernel, by decide +kernel⟩
abbrev s_law_number : Stmt := top 32
abbrev N_law_number : List Str := ["_law_cell", "_law_first", "_law_many", "_law_odd"]
theorem sc_law_number : FnScope N_law_number ["_law_cell", "_law_first", "_law_many"] (defScope s_law_number) := ⟨rfl, rfl, rfl, by decide +kernel, rfl, by decide +kernel, by decide +kernel⟩
abbrev s_law_text_by : Stmt := top 33
abbrev N_law_text_by : List Str := ["_law_script", "_law_cells", "_law_k", "_law_text"]
theorem sc_law_text_by : FnScope N_law_text_by ["_law_script"] (defScope s_law_text_by) := ⟨rfl, rfl, rfl, by decide +kernel, rfl, by decide +kernel, by decide +kernel⟩
abbrev s_law_read_number : Stmt := top 34
abbrev N_law_read_number : List Str := ["_law_word", "_law_number_here", "_law_sign"]
theorem sc_law_read_number : FnScope N_law_read_number ["_law_word"] (defScope s_law_read_number) := ⟨rfl, rfl, rfl, by decide +kernel, rfl, by decide +kernel, by decide +kernel⟩
abbrev s_law_read_row : Stmt := top 35
abbrev N_law_read_row : List Str := ["_law_row", "_law_names", "_law_words", "_law_numbers", "_law_k"]
theorem sc_law_read_row : FnScope N_law_read_row ["_law_row", "_law_names"] (defScope s_law_read_row) := ⟨rfl, rfl, rfl, by decide +kernel, rfl, by decide +kernel, by decide +kernel⟩
abbrev s_law_raw : Stmt := top 36
abbrev N_law_raw : List Str := ["_law_text", "_law_rows", "_law_raw_here", "_law_k", "_law_names", "_law_numbers"]
theorem sc_law_raw : FnScope N_law_raw ["_law_text"] (defScope s_law_raw) := ⟨rfl, rfl, rfl, by decide +kernel, rfl, by decide +kernel, by decide +kernel⟩
abbrev s_law_off : Stmt := top 37
abbrev N_law_off : List Str := ["_law_raw_here", "_law_place"]
theorem sc_law_off : FnScope N_law_off ["_law_raw_here", "_law_place"] (defScope s_law_off) := ⟨rfl, rfl, rfl, by decide +kernel, rfl, by decide +kernel, by decide +kernel⟩
abbrev s_law_due : Stmt := top 38
abbrev N_law_due : List Str := ["_law_raw_here", "_law_k"]
theorem sc_law_due : FnScope N_law_due ["_law_raw_here"] (defScope s_law_due) := ⟨rfl, rfl, rfl, by decide +kernel, rfl, by decide +kernel, by decide +kernel⟩
abbrev s_law_came : Stmt := top 39
abbrev N_law_came : List Str := ["_law_text"]
theorem sc_law_came : FnScope N_law_came ["_law_text"] (defScope s_law_came) := ⟨rfl, rfl, rfl, by decide +kernel, rfl, by decide +kernel, by decide +kernel⟩
abbrev s_law_based : Stmt := top 40
abbrev N_law_based : List Str := ["_law_text", "error", "_law_kinds"]
theorem sc_law_based : FnScope N_law_based ["_law_text"] (defScope s_law_based) := ⟨rfl, rfl, rfl, by decide +kernel, rfl, by decide +kernel, by decide +kernel⟩
abbrev s_law : Stmt := top 41
abbrev N_law : List Str := ["_law_script", "_law_text", "_law_k", "_law_raw_here", "_law_found"]
theorem sc_law : FnScope N_law ["_law_script"] (defScope s_law) := ⟨rfl, rfl, rfl, by decide +kernel, rfl, by decide +kernel, by decide +kernel⟩
/-! ### words of our own -/
section
variable {X : Cx}
theorem pe_globE {x : Str} {v : V} {pos : Pos} (hg : Gl X x) (h : ∃ u, X.mg x = some u ∧ RelV v u) (hd : (x == ("__debug__" : Str)) = false := by decide) : PE X (.Name x pos) (tC v) := by
  obtain ⟨u, hm, r⟩ := h
  exact pe_glob hg hm r hd
end
theorem pe_eq {X : Cx} {e : Expr} {t t' : TE} (h : PE X e t) (q : t = t') : PE X e t' := q ▸ h
theorem pts_eq {X : Cx} {e : List Expr} {t t' : TT} (h : PTs X e t) (q : t = t') : PTs X e t' := q ▸ h
theorem pss_eq {X : Cx} {st : List Stmt} {t t' : TS} (h : PSs X st t) (e : t = t') : PSs X st t' := e ▸ h
theorem sizeOk {n : Nat} (h : n ≤ 100000) : n ≤ sizeLine := Evl.sz_of h
theorem szl {α : Type} {xs : List α} (h : Nat.ble xs.length 100000 = true := by rfl) : xs.length ≤ sizeLine := sizeOk (Nat.le_of_ble_eq_true h)
/-- a test's two ways -/
theorem iteB {b : Bool} {A B : Prop} (h1 : b = true → A) (h2 : b = false → B) : if b = true then A else B := by
  cases b with
  | true => exact h1 rfl
  | false => exact h2 rfl
theorem iteFb {b : Bool} {A B : Prop} (e : b = false) (h : B) : if b = true then A else B := by
  rw [e]
  exact iteF h
theorem iteTb {b : Bool} {A B : Prop} (e : b = true) (h : A) : if b = true then A else B := by
  rw [e]
  exact iteT h
theorem neSelf {v w : V} (e : v = w) : (!decide (v = w)) = false := by rw [decide_eq_true e]; rfl
theorem dec_eq {p r : Prop} {ip : Decidable p} {ir : Decidable r} (h : p ↔ r) : decide p = decide r := by
  by_cases c : p
  · rw [decide_eq_true c, decide_eq_true (h.mp c)]
  · rw [decide_eq_false c, decide_eq_false (fun z => c (h.mpr z))]
theorem dself {v : V} : decide (v = v) = true := decide_eq_true rfl
theorem odt {p : Prop} {i : Decidable p} (h : @decide p i = true) : p := of_decide_eq_true h
theorem odf {p : Prop} {i : Decidable p} (h : @decide p i = false) : ¬ p := of_decide_eq_false h
theorem decT {p : Prop} {i : Decidable p} (h : p) : @decide p i = true := decide_eq_true h
theorem decF {p : Prop} {i : Decidable p} (h : ¬ p) : @decide p i = false := decide_eq_false h
theorem nndec {p : Prop} {i : Decidable p} (h : (!@decide p i) = true) : ¬ p := fun z => by rw [decT z] at h; cases h
theorem ndec {p : Prop} {i : Decidable p} (h : (!@decide p i) = false) : p := Decidable.byContradiction fun z => by rw [decF z] at h; cases h
/-- a road as a value -/
def wordOf (ring : Bool) : Str := if ring then "ring" else "line"
def roadV (ring : Bool) (len : Int) : List V := [.str (wordOf ring), .int len]
theorem word_line (ring : Bool) : (V.str (wordOf ring) = V.str "line") ↔ ring = false := by cases ring <;> decide +kernel
theorem word_ring (ring : Bool) : (V.str (wordOf ring) = V.str "ring") ↔ ring = true := by cases ring <;> decide +kernel
/-- how many places a road has -/
def placesOf (ring : Bool) (len : Int) : Int := if ring then len else len + 1
/-- a new object leaves all -/
theorem ex_at {H H' : Hp} {a : Addr} {o : HO} (e : Ex H H') (h : H a = some o) : H' a = some o := e a o h
theorem atI_lt {α : Type} {xs : List α} {i : Int} (h0 : 0 ≤ i) (h1 : i < xs.length) : ∃ v, atI xs i = some v ∧ xs[i.toNat]? = some v := by
  have hl : i.toNat < xs.length := by omega
  refine ⟨xs[i.toNat], ?_, List.getElem?_eq_getElem hl⟩
  have q := atI_nat (xs := xs) (j := i.toNat) (v := xs[i.toNat]) (List.getElem?_eq_getElem hl)
  have e : ((i.toNat : Nat) : Int) = i := by omega
  rw [e] at q
  exact q
/-- what a callee raises, wished for at slots of the known number -/
theorem passes_len {X : Cx} {W : WX} {F : XK} {n : Nat} (tk : Takes X W) (hn : X.N.length = n) (hw : ∀ (c : Value) (o : Option Addr) (τ : L2.St) (G : Hp), τ.length = n → F c o G → W c o τ G) : Passes (L2.CX X.prog X.w) X F := by
  intro pins τ G s e s' I c
  refine tk e s' (XE.of_call I (fun c o G' h => ?_) c)
  exact hw c o τ G' (I.len.trans hn) h
/-! #### isinstance of a caught error, whatever its class -/
def rIsX (K : PySem.W.Frag) (a : Addr) (cls : Value) (d : Option Addr) : List V → Hp → VK → Prop := fun xs H Q => ∃ D, cls = .ref D ∧ d = none ∧ ExcC K D ∧ rIsE K D a xs H Q
theorem call_isX {X : Cx} {a : Addr} {cls : Value} {d : Option Addr} {oe : Obj} {pn : List (Addr × Obj)} (hz : Zc cls d oe) (hf : ∃ vs, oe.data = .fields vs) : CallR (X.suite a ((a, oe) :: pn)) (.builtin "isinstance") (rIsX X.K a cls d) := by
  intro pins s σ H xs us Q I r h
  obtain ⟨D, rfl, rfl, C, h⟩ := h
  exact call_isE C hz hf pins s σ H xs us Q I r h
def excCB (K : PySem.W.Frag) (D : Addr) : Bool := decide (PySem.W.findIn K (.ref D) "__getattribute__" = some (some (.builtin "BaseException.__getattribute__"))) && (decide (PySem.W.findIn K (.ref D) "__getattr__" = some none) && (decide (PySem.W.subIn K (.ref D) (.type "BaseException") = some true) && (PySem.W.hasDictIn K D && (decide (PySem.W.findIn K (.ref D) "__class__" = some (some (.builtin "object.__class__"))) && (decide (PySem.W.specialIn K (.builtin "object.__class__") "__get__" = some (some (.builtin "getset_descriptor.__get__"))) && (decide (PySem.W.takesIn K (.builtin "object.__class__") = some true) && decide (PySem.W.mroIn K D (.type "object") = some true)))))))
theorem excCB_ok {K : PySem.W.Frag} {D : Addr} (h : excCB K D = true) : ExcC K D := by
  obtain ⟨h1, h⟩ := He.ba h
  obtain ⟨h2, h⟩ := He.ba h
  obtain ⟨h3, h⟩ := He.ba h
  obtain ⟨h4, h⟩ := He.ba h
  obtain ⟨h5, h⟩ := He.ba h
  obtain ⟨h6, h⟩ := He.ba h
  obtain ⟨h7, h8⟩ := He.ba h
  exact ⟨of_decide_eq_true h1, of_decide_eq_true h2, of_decide_eq_true h3, h4, of_decide_eq_true h5, of_decide_eq_true h6, of_decide_eq_true h7, of_decide_eq_true h8⟩
/-- what an own class must have, so that isinstance asks its instances rightly -/
structure InsC (K : PySem.W.Frag) (C : Addr) : Prop where
  ha : PySem.W.findIn K (.ref C) "__class__" = some (some (.builtin "object.__class__"))
  hn : PySem.W.specialIn K (.builtin "object.__class__") "__get__" = some (some (.builtin "getset_descriptor.__get__"))
  ht : PySem.W.takesIn K (.builtin "object.__class__") = some true
  hm : PySem.W.mroIn K C (.type "object") = some true
def insCB (K : PySem.W.Frag) (D : Addr) : Bool := decide (PySem.W.findIn K (.ref D) "__class__" = some (some (.builtin "object.__class__"))) && (decide (PySem.W.specialIn K (.builtin "object.__class__") "__get__" = some (some (.builtin "getset_descriptor.__get__"))) && (decide (PySem.W.takesIn K (.builtin "object.__class__") = some true) && decide (PySem.W.mroIn K D (.type "object") = some true)))
theorem insCB_ok {K : PySem.W.Frag} {D : Addr} (h : insCB K D = true) : InsC K D := by
  obtain ⟨h1, h⟩ := He.ba h
  obtain ⟨h2, h⟩ := He.ba h
  obtain ⟨h3, h4⟩ := He.ba h
  exact ⟨of_decide_eq_true h1, of_decide_eq_true h2, of_decide_eq_true h3, of_decide_eq_true h4⟩
/-! ### roads reckoned -/
def wayOf (ring : Bool) (len one other : Int) : Int := if ring = true then (if 2 * ((other - one) % len) ≤ len then (other - one) % len else (other - one) % len - len) else other - one
def apartOf (ring : Bool) (len one other : Int) : Int := if wayOf ring len one other < 0 then - wayOf ring len one other else wayOf ring len one other
theorem apart_self {ring : Bool} {len a : Int} (h : 0 < len) : apartOf ring len a a = 0 := by
  have h2 : 0 ≤ len := by omega
  unfold apartOf wayOf
  cases ring <;> simp [h2]
/-! ### days: stops as data, what is refused -/
abbrev Stp := Int × Int × Int × Int
def stopV (s : Stp) : List V := [.int s.1, .int s.2.1, .int s.2.2.1, .int s.2.2.2]
def StopsR (K : PySem.W.Frag) (H : Hp) (ps : List Addr) (sts : List Stp) : Prop := Paired (fun p s => SqT K H p (stopV s)) ps sts
theorem StopsR.ex {K : PySem.W.Frag} {H H' : Hp} {ps : List Addr} {sts : List Stp} (e : Ex H H') (h : StopsR K H ps sts) : StopsR K H' ps sts := Paired.mapP h fun _ _ q => Evl.ex_t e q
theorem StopsR.len {K : PySem.W.Frag} {H : Hp} {ps : List Addr} {sts : List Stp} (h : StopsR K H ps sts) : ps.length = sts.length := Paired.length h
theorem StopsR.get {K : PySem.W.Frag} {H : Hp} : ∀ {ps : List Addr} {sts : List Stp} {i : Nat} {p : Addr}, StopsR K H ps sts → ps[i]? = some p → ∃ s, sts[i]? = some s ∧ SqT K H p (stopV s)
  | [], _, i, p, _, e => by simp at e
  | _ :: _, [], _, _, h, _ => by cases h
  | a :: as, s :: ss, 0, p, h, e => by
    cases h with
    | cons r t =>
      simp at e
      subst e
      exact ⟨s, rfl, r⟩
  | a :: as, s :: ss, i + 1, p, h, e => by
    cases h with
    | cons r t =>
      obtain ⟨z, h1, h2⟩ := StopsR.get (i := i) (p := p) t (by simpa using e)
      exact ⟨z, by simpa using h1, h2⟩
theorem map_ref_get {ps : List Addr} {i : Nat} {x : V} (h : (ps.map V.ref)[i]? = some x) : ∃ p, ps[i]? = some p ∧ x = .ref p := by
  rw [List.getElem?_map] at h
  cases e : ps[i]? with
  | none => rw [e] at h; cases h
  | some p => rw [e] at h; exact ⟨p, rfl, (Option.some.inj h).symm⟩
theorem map_int_get {ps : List Int} {i : Nat} {x : V} (h : (ps.map V.int)[i]? = some x) : ∃ p, ps[i]? = some p ∧ x = .int p := by
  rw [List.getElem?_map] at h
  cases e : ps[i]? with
  | none => rw [e] at h; cases h
  | some p => rw [e] at h; exact ⟨p, rfl, (Option.some.inj h).symm⟩
theorem SqL.at_ins {K : PySem.W.Frag} {H : Hp} {a p C dx : Addr} {fs : List (Str × V)} {o : HO} {xs : List V} (hp : H p = some (.ins C dx fs)) (h : SqL K H a xs) : SqL K (upd H p o) a xs := by
  rcases h with (h | ⟨ob, h⟩) | h
  · exact .inl (.inl (by rw [upd_ne (ne_of h hp (by intro z; cases z))]; exact h))
  · exact .inl (.inr ⟨ob, by rw [upd_ne (ne_of h hp (by intro z; cases z))]; exact h⟩)
  · exact .inr h
theorem SqT.at_ins {K : PySem.W.Frag} {H : Hp} {a p C dx : Addr} {fs : List (Str × V)} {o : HO} {xs : List V} (hp : H p = some (.ins C dx fs)) (h : SqT K H a xs) : SqT K (upd H p o) a xs := by
  rcases h with (h | ⟨ob, h⟩) | h
  · exact .inl (.inl (by rw [upd_ne (ne_of h hp (by intro z; cases z))]; exact h))
  · exact .inl (.inr ⟨ob, by rw [upd_ne (ne_of h hp (by intro z; cases z))]; exact h⟩)
  · exact .inr h
theorem SqT.at_lst {K : PySem.W.Frag} {H : Hp} {a p : Addr} {ys : List V} {o : HO} {xs : List V} (hp : H p = some (.lst ys)) (h : SqT K H a xs) : SqT K (upd H p o) a xs := by
  rcases h with (h | ⟨ob, h⟩) | h
  · exact .inl (.inl (by rw [upd_ne (ne_of h hp (by intro z; cases z))]; exact h))
  · exact .inl (.inr ⟨ob, by rw [upd_ne (ne_of h hp (by intro z; cases z))]; exact h⟩)
  · exact .inr h
theorem StopsR.at_lst {K : PySem.W.Frag} {H : Hp} {p : Addr} {ys : List V} {o : HO} {ps : List Addr} {sts : List Stp} (hp : H p = some (.lst ys)) (h : StopsR K H ps sts) : StopsR K (upd H p o) ps sts := Paired.mapP h fun _ _ q => SqT.at_lst hp q
theorem StopsR.snoc {K : PySem.W.Frag} {H : Hp} {p : Addr} {s : Stp} (hs : SqT K H p (stopV s)) : ∀ {ps : List Addr} {sts : List Stp}, StopsR K H ps sts → StopsR K H (ps ++ [p]) (sts ++ [s])
  | [], [], _ => .cons hs .nil
  | [], _ :: _, h => by cases h
  | _ :: _, [], h => by cases h
  | _ :: _, _ :: _, h => by
    cases h with
    | cons r t => exact .cons r (StopsR.snoc hs t)
inductive Flt where
  | road | off | time | many
  deriving DecidableEq
def fltC (K : PySem.W.Frag) : Flt → Addr
  | .road => He.ga K "BadRoad"
  | .off => He.ga K "OffRoad"
  | .time => He.ga K "BadTime"
  | .many => He.ga K "TooMany"
def fltW : Flt → Str
  | .road => "road"
  | .off => "off"
  | .time => "time"
  | .many => "many"
def isTime (n : Int) : Prop := 0 ≤ n ∧ n ≤ 1000000000000
instance (n : Int) : Decidable (isTime n) := inferInstanceAs (Decidable (_ ∧ _))
def onRoad (ring : Bool) (len p : Int) : Prop := 0 ≤ p ∧ p < placesOf ring len
instance (ring : Bool) (len p : Int) : Decidable (onRoad ring len p) := inferInstanceAs (Decidable (_ ∧ _))
def stopFlt (ring : Bool) (len : Int) (s : Stp) : Option Flt := if ¬ onRoad ring len s.1 then some .off else if ¬ (isTime s.2.1 ∧ isTime s.2.2.1 ∧ isTime s.2.2.2) then some .time else if s.2.2.1 < s.2.1 then some .time else none
def stopsFlt (ring : Bool) (len : Int) : List Stp → Option Flt
  | [] => none
  | s :: r => match stopFlt ring len s with
    | some f => some f
    | none => stopsFlt ring len r
def isRoad (w : Str) (len : Int) : Prop := (w = "line" ∨ w = "ring") ∧ 1 ≤ len ∧ len ≤ 1000000000
instance (w : Str) (len : Int) : Decidable (isRoad w len) := inferInstanceAs (Decidable (_ ∧ _))
def dayFlt (w : Str) (len home start : Int) (sts : List Stp) : Option Flt := if ¬ isRoad w len then some .road else if ¬ onRoad (decide (w = "ring")) len home then some .off else if ¬ isTime start then some .time else if 7 < sts.length then some .many else stopsFlt (decide (w = "ring")) len sts
theorem in_roads (w : Str) : inV (.str w) [.str "line", .str "ring"] = decide (w = "line" ∨ w = "ring") := by
  by_cases h1 : w = "line"
  · subst h1
    decide +kernel
  · by_cases h2 : w = "ring"
    · subst h2
      decide +kernel
    · rw [decide_eq_false (by rintro (h | h); exact h1 h; exact h2 h)]
      have e1 : ("line" == w) = false := beq_eq_false_iff_ne.mpr (Ne.symm h1)
      have e2 : ("ring" == w) = false := beq_eq_false_iff_ne.mpr (Ne.symm h2)
      show ((eqV (.str "line") (.str w)) || ((eqV (.str "ring") (.str w)) || false)) = false
      show ((("line" : Str) == w) || ((("ring" : Str) == w) || false)) = false
      rw [e1, e2]; rfl
theorem isRoad_word {w : Str} {len : Int} (h : isRoad w len) : w = wordOf (decide (w = "ring")) ∧ 1 ≤ len := by
  obtain ⟨h1 | h1, h2, _⟩ := h
  · subst h1
    exact ⟨by decide +kernel, h2⟩
  · subst h1
    exact ⟨by decide +kernel, h2⟩
def dayFs (r l : Addr) (home start : Int) : List (Str × V) := [("road", .ref r), ("home", .int home), ("start", .int start), ("stops", .ref l)]
/-- a day as it stands: r its road, l its list of stops -/
def DayAt (K : PySem.W.Frag) (H : Hp) (d r l : Addr) (w : Str) (len home start : Int) (ps : List Addr) (sts : List Stp) : Prop :=
  (∃ dx, H d = some (.ins (He.ga K "Day") dx (dayFs r l home start))) ∧ SqT K H r [.str w, .int len] ∧ H l = some (.lst (ps.map V.ref)) ∧ StopsR K H ps sts
theorem DayAt.ex {K : PySem.W.Frag} {H H' : Hp} {d r l : Addr} {w : Str} {len home start : Int} {ps : List Addr} {sts : List Stp} (e : Ex H H') (h : DayAt K H d r l w len home start ps sts) : DayAt K H' d r l w len home start ps sts := by
  obtain ⟨⟨dx, h1⟩, h2, h3, h4⟩ := h
  exact ⟨⟨dx, e _ _ h1⟩, Evl.ex_t e h2, e _ _ h3, h4.ex e⟩
/-- another list may change -/
theorem DayAt.at_lst {K : PySem.W.Frag} {H : Hp} {d r l p : Addr} {w : Str} {len home start : Int} {ps : List Addr} {sts : List Stp} {ys : List V} {o : HO} (hp : H p = some (.lst ys)) (ne : l ≠ p) (h : DayAt K H d r l w len home start ps sts) : DayAt K (upd H p o) d r l w len home start ps sts := by
  obtain ⟨⟨dx, h1⟩, h2, h3, h4⟩ := h
  exact ⟨⟨dx, by rw [upd_ne (ne_of h1 hp (by intro z; cases z))]; exact h1⟩, SqT.at_lst hp h2, by rw [upd_ne ne]; exact h3, h4.at_lst hp⟩
def goodStop (ring : Bool) (len : Int) (s : Stp) : Prop := onRoad ring len s.1 ∧ 0 ≤ s.2.1 ∧ s.2.1 ≤ s.2.2.1 ∧ s.2.2.1 ≤ 1000000000000 ∧ 0 ≤ s.2.2.2 ∧ s.2.2.2 ≤ 1000000000000
theorem cut_from {xs : List V} {k : Nat} (h : k ≤ xs.length) : cutV xs (some (k : Int)) none = xs.drop k := by
  unfold cutV
  rw [HT.sIx_nat, HT.sIx_none, Nat.min_eq_left h]
  rw [List.take_of_length_le]
  rw [List.length_drop]
  omega
theorem cut_to {xs : List V} {k : Nat} (h : k ≤ xs.length) : cutV xs none (some (k : Int)) = xs.take k := by
  unfold cutV
  rw [HT.sIx_nat, HT.sIx_none, Nat.min_eq_left h]
  rfl
/-! ### data compared -/
def stopD (s : Stp) : PyData := .tuple [.int s.1, .int s.2.1, .int s.2.2.1, .int s.2.2.2]
def stopsD (sts : List Stp) : PyData := .list (sts.map stopD)
theorem stop_dp {K : PySem.W.Frag} {H : Hp} {p : Addr} {s : Stp} (h : SqT K H p (stopV s)) : Dp K H (.ref p) (stopD s) := .tup h (.cons (.int _) (.cons (.int _) (.cons (.int _) (.cons (.int _) .nil))))
theorem stops_dpAll {K : PySem.W.Frag} {H : Hp} : ∀ {ps : List Addr} {sts : List Stp}, StopsR K H ps sts → DpAll K H (ps.map V.ref) (sts.map stopD)
  | [], [], _ => .nil
  | [], _ :: _, h => by cases h
  | _ :: _, [], h => by cases h
  | _ :: _, _ :: _, h => by
    cases h with
    | cons r t => exact .cons (stop_dp r) (stops_dpAll t)
theorem stops_dp {K : PySem.W.Frag} {H : Hp} {l : Addr} {ps : List Addr} {sts : List Stp} (hl : SqL K H l (ps.map V.ref)) (h : StopsR K H ps sts) : Dp K H (.ref l) (stopsD sts) := .lst hl (stops_dpAll h)
theorem canLay_stops : ∀ sts : List Stp, PyData.canLayAll0 (sts.map stopD) = true
  | [] => by simp [PyData.canLayAll0]
  | s :: r => by
    have ih := canLay_stops r
    simp only [List.map_cons, PyData.canLayAll0, ih, Bool.and_true]
    simp [stopD, PyData.canLay0, PyData.canLayAll0]
theorem depth_stops : ∀ sts : List Stp, PyData.depthAll (sts.map stopD) ≤ 3
  | [] => by simp [PyData.depthAll]
  | s :: r => by
    have ih := depth_stops r
    simp only [List.map_cons, PyData.depthAll]
    have : PyData.depth (stopD s) ≤ 3 := by simp [stopD, PyData.depth, PyData.depthAll]
    omega
theorem shaped_stops (sts : List Stp) : SeqAt.shaped (stopsD sts) = true := by
  have h1 := canLay_stops sts
  have h2 := depth_stops sts
  unfold SeqAt.shaped stopsD
  rw [Bool.and_eq_true]
  refine ⟨by simpa [PyData.canLay0] using h1, decide_eq_true ?_⟩
  simp only [PyData.depth]
  omega
theorem eqv_self {d : PyData} (h : SeqAt.shaped d = true) : PyData.eqv d d = true := SeqAt.eqv_refl d (SeqAt.canLay_of_shaped h)

/-! ### how many different numbers -/
theorem first_len (ns : List Int) : ∀ i, i ≤ ns.length → ((firstMet (fun j => ns.getD j 0) i).length ≤ i ∧ ((firstMet (fun j => ns.getD j 0) i).length = i → firstMet (fun j => ns.getD j 0) i = ns.take i ∧ (ns.take i).Nodup))
  | 0, _ => ⟨Nat.le_refl _, fun _ => ⟨rfl, List.nodup_nil⟩⟩
  | i + 1, hi => by
    obtain ⟨h1, h2⟩ := first_len ns i (Nat.le_of_lt hi)
    have at_i : ns.getD i 0 = ns[i]'hi := by
      rw [List.getD_eq_getElem?_getD, List.getElem?_eq_getElem hi]; rfl
    have tk : ns.take (i + 1) = ns.take i ++ [ns[i]'hi] := by
      rw [List.take_succ, List.getElem?_eq_getElem hi]; rfl
    have st : firstMet (fun j => ns.getD j 0) (i + 1) = if (firstMet (fun j => ns.getD j 0) i).any (· == ns.getD i 0) then firstMet (fun j => ns.getD j 0) i else firstMet (fun j => ns.getD j 0) i ++ [ns.getD i 0] := firstMet_succ _ _
    rw [st]
    by_cases c : (firstMet (fun j => ns.getD j 0) i).any (· == ns.getD i 0) = true
    · rw [if_pos c]
      exact ⟨Nat.le_succ_of_le h1, fun z => by omega⟩
    · rw [if_neg c, List.length_append, List.length_singleton]
      refine ⟨Nat.succ_le_succ h1, fun z => ?_⟩
      obtain ⟨e, nd⟩ := h2 (by omega)
      rw [e, at_i, tk]
      refine ⟨rfl, ?_⟩
      rw [List.nodup_append]
      refine ⟨nd, (by simp), fun x hx y hy => ?_⟩
      rw [List.mem_singleton.mp hy]
      rintro rfl
      refine c ?_
      rw [e, at_i]
      exact List.any_eq_true.mpr ⟨_, hx, beq_self_eq_true _⟩
theorem ints_are : ∀ {ns : List Int} {us : List Value}, Vals (ns.map V.int) us → IntsAre us ns
  | [], _, h => by cases h; exact .nil
  | n :: r, _, h => by
    cases h with
    | cons a b =>
      obtain ⟨k, rfl⟩ := a
      exact .cons n k (ints_are b)
def tLenset (K : PySem.W.Frag) (ta : TE) : TE := fun σ H Q => ta σ H fun x H1 => ∃ (l : Addr) (ns : List Int), x = .ref l ∧ SqL K H1 l (ns.map V.int) ∧ ns.length ≤ 4000 ∧ ∀ m : Nat, (ns.Nodup → m = ns.length) → (¬ ns.Nodup → m < ns.length) → Q (.int (m : Nat)) H1
theorem pe_lenset {X : Cx} {a : Expr} {ta : TE} {p p2 q pos : Pos} (gl : Gl X "len") (ml : X.mg "len" = none) (gs : Gl X "set") (ms : X.mg "set" = none) (ha : PE X a ta) (calm : X.calm = true)
    (na : starEach [a] X.env = (false, eval a X.env) :: starEach [] X.env := by rfl) : PE X (.Call (.Name "len" p) [.Call (.Name "set" p2) [a] [] q] [] pos) (tLenset X.K ta) := by
  refine ⟨fun ps0 st0 σ0 H0 W0 Inv0 asked => ?_⟩
  have inner := ha.run ps0 st0 σ0 H0 _ Inv0 asked
  refine Call_ (ld_blt Inv0 gl ml boot_len (callWith_builtin1 (args_cons ?_ rfl) rfl rfl))
  refine Call_ (ld_blt Inv0 gs ms boot_set (callWith_type1 (args_cons (thn inner ?_) na) na rfl))
  rintro v1 st1 ⟨x1, H1, Inv1, rel1, l, ns, rfl, sq, most, wish⟩
  refine args_nil ?_
  cases rel1
  obtain ⟨vals, relv, pl, _⟩ := Inv1.list sq
  have same : vals.toArray.size = ns.length := by
    rw [List.size_toArray, ← relv.length]; exact List.length_map _
  refine call_set_list (Inv1.ok.hd calm) pl.isList (by simpa using ints_are relv) (by rw [same]; unfold scanBound; omega) fun heap2 tk2 isSet kept => args_nil ?_
  rw [same] at isSet
  obtain ⟨ob, es, ep, t, atS, isS, dataS, _, _, _, fits, count⟩ := isSet
  obtain ⟨f1, f2⟩ := first_len ns ns.length (Nat.le_refl _)
  have Inv2 : Inv X ps0 σ0 H1 { st1 with heap := heap2, toks := tk2 } := Inv1.kept fun b o e => kept b o (Heap.lt_size e) e
  refine call_len_set atS isS dataS fits (by rw [count]; omega) ⟨.int ((firstMet (fun j => ns.getD j 0) ns.length).length : Nat), H1, Inv2.tok _, ⟨_, by rw [count]⟩, wish _ (fun nd => ?_) (fun nn => ?_)⟩
  · have e := RZ.firstMet_nodup nd ns.length (Nat.le_refl _)
    rw [e, List.take_length]
  · refine Nat.lt_of_le_of_ne f1 fun z => nn ?_
    have nd := (f2 z).2
    rw [List.take_length] at nd
    exact nd
/-! ### orders -/
def ordOk (ns : List Int) (many : Nat) : Prop := (∀ x ∈ ns, 0 ≤ x ∧ x < many) ∧ ns.Nodup
abbrev Row := Int × Int × Int
def rowV (r : Row) : List V := [.int r.1, .int r.2.1, .int r.2.2]
def RowsR (H : Hp) (qs : List Addr) (rs : List Row) : Prop := Paired (fun p s => H p = some (.tup (rowV s))) qs rs
theorem RowsR.ex {H H' : Hp} {qs : List Addr} {rs : List Row} (e : Ex H H') (h : RowsR H qs rs) : RowsR H' qs rs := Paired.mapP h fun _ _ q => e _ _ q
theorem RowsR.len {H : Hp} {qs : List Addr} {rs : List Row} (h : RowsR H qs rs) : qs.length = rs.length := Paired.length h
theorem RowsR.at_lst {H : Hp} {p : Addr} {ys : List V} {o : HO} {qs : List Addr} {rs : List Row} (hp : H p = some (.lst ys)) (h : RowsR H qs rs) : RowsR (upd H p o) qs rs := Paired.mapP h fun _ _ q => by rw [upd_ne (ne_of q hp (by intro z; cases z))]; exact q
theorem RowsR.snoc {H : Hp} {p : Addr} {s : Row} (hs : H p = some (.tup (rowV s))) : ∀ {qs : List Addr} {rs : List Row}, RowsR H qs rs → RowsR H (qs ++ [p]) (rs ++ [s])
  | [], [], _ => .cons hs .nil
  | [], _ :: _, h => by cases h
  | _ :: _, [], h => by cases h
  | _ :: _, _ :: _, h => by
    cases h with
    | cons r t => exact .cons r (RowsR.snoc hs t)
theorem RowsR.get {H : Hp} : ∀ {qs : List Addr} {rs : List Row} {i : Nat} {s : Row}, RowsR H qs rs → rs[i]? = some s → ∃ p, qs[i]? = some p ∧ H p = some (.tup (rowV s))
  | _, [], i, s, _, e => by simp at e
  | [], _ :: _, _, _, h, _ => by cases h
  | a :: as, x :: ss, 0, s, h, e => by
    cases h with
    | cons r t =>
      simp at e
      subst e
      exact ⟨a, rfl, r⟩
  | a :: as, x :: ss, i + 1, s, h, e => by
    cases h with
    | cons r t =>
      obtain ⟨z, h1, h2⟩ := RowsR.get (i := i) (s := s) t (by simpa using e)
      exact ⟨z, by simpa using h1, h2⟩
theorem split_last {α : Type} (xs : List α) : xs = [] ∨ ∃ ys y, xs = ys ++ [y] := by
  rcases List.eq_nil_or_concat xs with h | ⟨ys, y, h⟩
  · exact .inl h
  · exact .inr ⟨ys, y, by rw [h, List.concat_eq_append]⟩
theorem RowsR.last {H : Hp} {qs : List Addr} {rs : List Row} {x : Row} (h : RowsR H qs (rs ++ [x])) : ∃ qs' p, qs = qs' ++ [p] ∧ H p = some (.tup (rowV x)) := by
  obtain ⟨p, e, hp⟩ := h.get (i := rs.length) (s := x) (by simp)
  refine ⟨qs.take rs.length, p, ?_, hp⟩
  have hl := h.len
  rw [List.length_append, List.length_singleton] at hl
  have e2 : qs.take (rs.length + 1) = qs.take rs.length ++ [p] := by rw [List.take_succ, e]; rfl
  rw [← e2, List.take_of_length_le (by omega)]
theorem StopsR.at {K : PySem.W.Frag} {H : Hp} : ∀ {ps : List Addr} {sts : List Stp} {i : Nat} {s : Stp}, StopsR K H ps sts → sts[i]? = some s → ∃ p, ps[i]? = some p ∧ SqT K H p (stopV s)
  | _, [], i, s, _, e => by simp at e
  | [], _ :: _, _, _, h, _ => by cases h
  | a :: as, x :: ss, 0, s, h, e => by
    cases h with
    | cons r t =>
      simp at e
      subst e
      exact ⟨a, rfl, r⟩
  | a :: as, x :: ss, i + 1, s, h, e => by
    cases h with
    | cons r t =>
      obtain ⟨z, h1, h2⟩ := StopsR.at (i := i) (s := s) t (by simpa using e)
      exact ⟨z, by simpa using h1, h2⟩
/-- the stop of a number -/
def stAt (sts : List Stp) (n : Int) : Stp := (sts[n.toNat]?).getD (0, 0, 0, 0)
theorem stAt_eq {sts : List Stp} {n : Int} (h0 : 0 ≤ n) (h1 : n < sts.length) : sts[n.toNat]? = some (stAt sts n) := by
  have hl : n.toNat < sts.length := by omega
  unfold stAt
  rw [List.getElem?_eq_getElem hl]
  rfl
theorem stop_val {K : PySem.W.Frag} {H : Hp} {ps : List Addr} {sts : List Stp} {n : Int} (hP : StopsR K H ps sts) (h0 : 0 ≤ n) (h1 : n < sts.length) : ∃ p, atI (ps.map V.ref) n = some (.ref p) ∧ SqT K H p (stopV (stAt sts n)) := by
  obtain ⟨p, e, hp⟩ := hP.at (stAt_eq h0 h1)
  refine ⟨p, ?_, hp⟩
  have q := atI_nat (xs := ps.map V.ref) (j := n.toNat) (v := .ref p) (by rw [List.getElem?_map, e]; rfl)
  have ez : ((n.toNat : Nat) : Int) = n := by omega
  rw [ez] at q
  exact q
def maxOf (i j : Int) : Int := if j > i then j else i
/-- what the timetable is, from a place and a time on; none: missed -/
def rowsOf (ring : Bool) (len : Int) (sts : List Stp) : Int → Int → List Int → Option (List Row)
  | _, _, [] => some []
  | pl, t, n :: r => if t + apartOf ring len pl (stAt sts n).1 > (stAt sts n).2.2.1 then none else
    (rowsOf ring len sts (stAt sts n).1 (maxOf (t + apartOf ring len pl (stAt sts n).1) (stAt sts n).2.1 + (stAt sts n).2.2.2) r).map fun rs => (t + apartOf ring len pl (stAt sts n).1, maxOf (t + apartOf ring len pl (stAt sts n).1) (stAt sts n).2.1, maxOf (t + apartOf ring len pl (stAt sts n).1) (stAt sts n).2.1 + (stAt sts n).2.2.2) :: rs
theorem rows_miss {ring : Bool} {len pl t n : Int} {sts : List Stp} {r : List Int} (h : t + apartOf ring len pl (stAt sts n).1 > (stAt sts n).2.2.1) : rowsOf ring len sts pl t (n :: r) = none := by rw [rowsOf, if_pos h]
theorem rows_step {ring : Bool} {len pl t n : Int} {sts : List Stp} {r : List Int} (h : ¬ t + apartOf ring len pl (stAt sts n).1 > (stAt sts n).2.2.1) : rowsOf ring len sts pl t (n :: r) = (rowsOf ring len sts (stAt sts n).1 (maxOf (t + apartOf ring len pl (stAt sts n).1) (stAt sts n).2.1 + (stAt sts n).2.2.2) r).map fun rs => (t + apartOf ring len pl (stAt sts n).1, maxOf (t + apartOf ring len pl (stAt sts n).1) (stAt sts n).2.1, maxOf (t + apartOf ring len pl (stAt sts n).1) (stAt sts n).2.1 + (stAt sts n).2.2.2) :: rs := by rw [rowsOf, if_neg h]
theorem map_map_app {o : Option (List Row)} {a b : List Row} {x : Row} (h : b = a ++ [x]) : (o.map fun rs => x :: rs).map (fun rs => a ++ rs) = o.map fun rs => b ++ rs := by
  subst h
  cases o <;> simp
theorem rows_len {ring : Bool} {len : Int} {sts : List Stp} : ∀ {ns : List Int} {pl t : Int} {rs : List Row}, rowsOf ring len sts pl t ns = some rs → rs.length = ns.length
  | [], _, _, rs, h => by rw [rowsOf] at h; cases h; rfl
  | n :: r, pl, t, rs, h => by
    by_cases c : t + apartOf ring len pl (stAt sts n).1 > (stAt sts n).2.2.1
    · rw [rows_miss c] at h; cases h
    · rw [rows_step c] at h
      cases e : rowsOf ring len sts (stAt sts n).1 (maxOf (t + apartOf ring len pl (stAt sts n).1) (stAt sts n).2.1 + (stAt sts n).2.2.2) r with
      | none => rw [e] at h; cases h
      | some z =>
        rw [e] at h
        have h2 := Option.some.inj h
        rw [← h2, List.length_cons, rows_len e, List.length_cons]
/-- how the van goes on to a stop; none: it has closed -/
def goOn (ring : Bool) (len pl t : Int) (s : Stp) : Option Row := if t + apartOf ring len pl s.1 > s.2.2.1 then none else some (t + apartOf ring len pl s.1, maxOf (t + apartOf ring len pl s.1) s.2.1, maxOf (t + apartOf ring len pl s.1) s.2.1 + s.2.2.2)
theorem rows_go {ring : Bool} {len pl t n : Int} {sts : List Stp} {r : List Int} : rowsOf ring len sts pl t (n :: r) = (goOn ring len pl t (stAt sts n)).bind fun x => (rowsOf ring len sts (stAt sts n).1 x.2.2 r).map fun rs => x :: rs := by
  unfold goOn
  by_cases c : t + apartOf ring len pl (stAt sts n).1 > (stAt sts n).2.2.1
  · rw [rows_miss c, if_pos c]; rfl
  · rw [rows_step c, if_neg c]; rfl
/-! ### choices -/
def combos {α : Type} : Nat → List α → List (List α)
  | 0, _ => [[]]
  | _ + 1, [] => []
  | r + 1, x :: xs => (combos r xs).map (x :: ·) ++ combos (r + 1) xs
theorem mem_combos {α : Type} : ∀ {r : Nat} {xs d : List α}, d ∈ combos r xs ↔ d.Sublist xs ∧ d.length = r
  | 0, xs, d => by
    rw [combos.eq_def]
    simp only [List.mem_singleton]
    constructor
    · rintro rfl
      exact ⟨List.nil_sublist _, rfl⟩
    · rintro ⟨_, h⟩
      exact List.eq_nil_of_length_eq_zero h
  | r + 1, [], d => by
    simp only [combos, List.not_mem_nil, List.sublist_nil, false_iff]
    rintro ⟨rfl, h⟩
    cases h
  | r + 1, x :: xs, d => by
    simp only [combos, List.mem_append, List.mem_map, mem_combos (xs := xs)]
    constructor
    · rintro (⟨e, ⟨h1, h2⟩, rfl⟩ | ⟨h1, h2⟩)
      · exact ⟨h1.cons_cons x, by rw [List.length_cons, h2]⟩
      · exact ⟨h1.cons x, h2⟩
    · rintro ⟨h1, h2⟩
      cases h1 with
      | cons _ h => exact .inr ⟨h, h2⟩
      | cons_cons _ h => exact .inl ⟨_, ⟨h, by simpa using h2⟩, rfl⟩
theorem combos_map {α β : Type} (f : α → β) : ∀ (r : Nat) (xs : List α), combos r (xs.map f) = (combos r xs).map (List.map f)
  | 0, _ => by simp [combos]
  | _ + 1, [] => by simp [combos]
  | r + 1, x :: xs => by
    simp only [List.map_cons, combos, List.map_append, List.map_map, combos_map f r xs, combos_map f (r + 1) xs]
    rfl
theorem combos_nodup {α : Type} : ∀ (r : Nat) (xs : List α), xs.Nodup → (combos r xs).Nodup
  | 0, _, _ => by simp [combos]
  | _ + 1, [], _ => by simp [combos]
  | r + 1, x :: xs, h => by
    obtain ⟨h1, h2⟩ := List.nodup_cons.mp h
    simp only [combos]
    rw [List.nodup_append]
    refine ⟨?_, combos_nodup (r + 1) xs h2, ?_⟩
    · have i := combos_nodup r xs h2
      rw [List.Nodup, List.pairwise_map]
      exact i.imp fun n z => n (List.cons.inj z).2
    · intro a ha b hb e
      obtain ⟨d, _, rfl⟩ := List.mem_map.mp ha
      subst e
      exact h1 ((mem_combos.mp hb).1.subset (List.mem_cons_self ..))
/-! ### the table as data -/
abbrev TV := Int × Option Int
abbrev Way := Option Int × Int × Int
abbrev Key := List Int × Int
section
variable (go : Int → Int → Int → Option Int) (pl : Int → Int) (p0 t0 : Int)
def stepE (last : Int) (found : Option TV) (w : Way) : Option TV := match go w.2.1 w.2.2 last with
  | none => found
  | some t => match found with
    | none => some (t, w.1)
    | some f => if t < f.1 then some (t, w.1) else found
def early (ways : List Way) (last : Int) : Option TV := ways.foldl (stepE go last) none
def othersOf (done : List Int) (last : Int) : List Int := done.filter fun n => decide (n ≠ last)
def waysOf (f : Int → Option TV) (others : List Int) : List Way := others.filterMap fun n => (f n).map fun v => (some n, pl n, v.1)
def cellF : Nat → List Int → Int → Option TV
  | 0, _, _ => none
  | k + 1, done, last => early go (if othersOf done last = [] then [(none, p0, t0)] else waysOf pl (fun n => cellF k (othersOf done last) n) (othersOf done last)) last
/-- what the table has at a key -/
def cell (done : List Int) (last : Int) : Option TV := cellF go pl p0 t0 done.length done last
theorem others_len {done : List Int} {last : Int} (nd : done.Nodup) (m : last ∈ done) : (othersOf done last).length + 1 = done.length := by
  have e : othersOf done last = done.erase last := by
    rw [nd.erase_eq_filter]
    unfold othersOf
    congr 1
    funext n
    by_cases c : n = last
    · subst c; simp
    · simp [c]
  rw [e, List.length_erase_of_mem m]
  have : 0 < done.length := List.length_pos_of_mem m
  omega
theorem cell_eq {done : List Int} {last : Int} (nd : done.Nodup) (m : last ∈ done) : cell go pl p0 t0 done last = early go (if othersOf done last = [] then [(none, p0, t0)] else waysOf pl (cell go pl p0 t0 (othersOf done last)) (othersOf done last)) last := by
  unfold cell
  have l := others_len nd m
  rw [← l, cellF]
theorem early_none {ways : List Way} {last : Int} : early go ways last = none ↔ ∀ w ∈ ways, go w.2.1 w.2.2 last = none := by
  have gen : ∀ (ws : List Way) (f : Option TV), ws.foldl (stepE go last) f = none ↔ f = none ∧ ∀ w ∈ ws, go w.2.1 w.2.2 last = none := by
    intro ws
    induction ws with
    | nil => intro f; simp
    | cons w r ih =>
      intro f
      rw [List.foldl_cons, ih]
      unfold stepE
      cases e : go w.2.1 w.2.2 last with
      | none => simp [e]
      | some t =>
        cases f with
        | none => simp [e]
        | some g => simp only [List.mem_cons, forall_eq_or_imp, e]; split <;> simp
  have := gen ways none
  simpa [early] using this
/-- the first of the least -/
def FirstLeast (ways : List Way) (last : Int) (v : TV) : Prop := ∃ pre w post, ways = pre ++ w :: post ∧ go w.2.1 w.2.2 last = some v.1 ∧ w.1 = v.2 ∧ (∀ x ∈ pre, ∀ t, go x.2.1 x.2.2 last = some t → v.1 < t) ∧ (∀ x ∈ post, ∀ t, go x.2.1 x.2.2 last = some t → v.1 ≤ t)
theorem early_some {ways : List Way} {last : Int} {v : TV} (h : early go ways last = some v) : FirstLeast go ways last v := by
  have gen : ∀ (ws : List Way) (before : List Way) (f : Option TV), (f = none → ∀ x ∈ before, go x.2.1 x.2.2 last = none) → (∀ u, f = some u → FirstLeast go before last u) → ∀ v, ws.foldl (stepE go last) f = some v → FirstLeast go (before ++ ws) last v := by
    intro ws
    induction ws with
    | nil => intro before f h1 h2 v e; rw [List.append_nil]; exact h2 v e
    | cons w r ih =>
      intro before f h1 h2 v e
      have same : before ++ w :: r = (before ++ [w]) ++ r := by rw [List.append_assoc]; rfl
      rw [same]
      rw [List.foldl_cons] at e
      refine ih (before ++ [w]) _ (fun n x hx => ?_) (fun u hu => ?_) v e
      · unfold stepE at n
        cases c : go w.2.1 w.2.2 last with
        | none =>
          rw [c] at n
          rcases List.mem_append.mp hx with hx | hx
          · exact h1 n x hx
          · rw [List.mem_singleton.mp hx]; exact c
        | some t =>
          rw [c] at n
          cases f with
          | none => cases n
          | some g => dsimp only at n; split at n <;> cases n
      · unfold stepE at hu
        cases c : go w.2.1 w.2.2 last with
        | none =>
          rw [c] at hu
          obtain ⟨pre, y, post, e1, e2, e3, e4, e5⟩ := h2 u hu
          refine ⟨pre, y, post ++ [w], by rw [e1]; simp, e2, e3, e4, fun x hx t ht => ?_⟩
          rcases List.mem_append.mp hx with hx | hx
          · exact e5 x hx t ht
          · rw [List.mem_singleton.mp hx, c] at ht; cases ht
        | some t =>
          rw [c] at hu
          cases f with
          | none =>
            dsimp only at hu
            obtain rfl := Option.some.inj hu
            refine ⟨before, w, [], rfl, c, rfl, fun x hx t2 ht => ?_, fun x hx => by cases hx⟩
            rw [h1 rfl x hx] at ht; cases ht
          | some g =>
            dsimp only at hu
            by_cases lt : t < g.1
            · rw [if_pos lt] at hu
              obtain rfl := Option.some.inj hu
              refine ⟨before, w, [], rfl, c, rfl, fun x hx t2 ht => ?_, fun x hx => by cases hx⟩
              obtain ⟨pre, y, post, e1, e2, e3, e4, e5⟩ := h2 g rfl
              show t < t2
              rw [e1] at hx
              rcases List.mem_append.mp hx with hx | hx
              · have := e4 x hx t2 ht; omega
              rcases List.mem_cons.mp hx with rfl | hx
              · rw [e2] at ht
                have := Option.some.inj ht
                omega
              · have := e5 x hx t2 ht; omega
            · rw [if_neg lt] at hu
              obtain rfl := Option.some.inj hu
              obtain ⟨pre, y, post, e1, e2, e3, e4, e5⟩ := h2 g rfl
              refine ⟨pre, y, post ++ [w], by rw [e1]; simp, e2, e3, e4, fun x hx t2 ht => ?_⟩
              rcases List.mem_append.mp hx with hx | hx
              · exact e5 x hx t2 ht
              · rw [List.mem_singleton.mp hx, c] at ht
                have := Option.some.inj ht
                omega
  exact gen ways [] none (fun _ x hx => by cases hx) (fun u hu => by cases hu) v h
theorem early_le {ways : List Way} {last : Int} {w : Way} {t : Int} (m : w ∈ ways) (h : go w.2.1 w.2.2 last = some t) : ∃ v, early go ways last = some v ∧ v.1 ≤ t := by
  cases e : early go ways last with
  | none => rw [(early_none go).mp e w m] at h; cases h
  | some v =>
    refine ⟨v, rfl, ?_⟩
    obtain ⟨pre, y, post, e1, e2, e3, e4, e5⟩ := early_some go e
    rw [e1] at m
    rcases List.mem_append.mp m with m | m
    · exact Int.le_of_lt (e4 w m t h)
    rcases List.mem_cons.mp m with rfl | m
    · rw [e2] at h
      exact Int.le_of_eq (Option.some.inj h)
    · exact e5 w m t h
/-- all keys, in the order in which they come -/
def keysD (d : List Int) : List Key := d.map fun l => (d, l)
def keysR (rest : List Int) (r : Nat) : List Key := (combos r rest).flatMap keysD
def keysUpTo (rest : List Int) : Nat → List Key
  | 0 => []
  | r + 1 => keysUpTo rest r ++ keysR rest (r + 1)
def entOf (k : Key) : Option (Key × TV) := (cell go pl p0 t0 k.1 k.2).map fun v => (k, v)
def entsOf (ks : List Key) : List (Key × TV) := ks.filterMap (entOf go pl p0 t0)
def look (es : List (Key × TV)) (k : Key) : Option TV := (es.find? fun e => decide (e.1 = k)).map (·.2)
theorem look_ents (ks : List Key) (k : Key) : look (entsOf go pl p0 t0 ks) k = if k ∈ ks then cell go pl p0 t0 k.1 k.2 else none := by
  induction ks with
  | nil => rfl
  | cons x r ih =>
    unfold entsOf at ih ⊢
    rw [List.filterMap_cons]
    unfold entOf at ih ⊢
    cases e : cell go pl p0 t0 x.1 x.2 with
    | none =>
      simp only [Option.map_none]
      rw [ih]
      by_cases c : k = x
      · subst c
        rw [if_pos (List.mem_cons_self ..), e]
        split <;> rfl
      · have : (k ∈ x :: r) ↔ k ∈ r := by simp [c]
        simp only [this]
    | some v =>
      simp only [Option.map_some]
      by_cases c : x = k
      · subst c
        rw [if_pos (List.mem_cons_self ..), e]
        simp [look]
      · have : (k ∈ x :: r) ↔ k ∈ r := by simp [Ne.symm c]
        simp only [this]
        rw [← ih]
        simp [look, c]
theorem mem_keysR {rest : List Int} {r : Nat} {k : Key} : k ∈ keysR rest r ↔ k.1.Sublist rest ∧ k.1.length = r ∧ k.2 ∈ k.1 := by
  unfold keysR keysD
  simp only [List.mem_flatMap, List.mem_map, mem_combos]
  constructor
  · rintro ⟨d, ⟨h1, h2⟩, l, hl, rfl⟩
    exact ⟨h1, h2, hl⟩
  · rintro ⟨h1, h2, h3⟩
    exact ⟨k.1, ⟨h1, h2⟩, k.2, h3, rfl⟩
theorem mem_keysUpTo {rest : List Int} {k : Key} : ∀ {n : Nat}, k ∈ keysUpTo rest n ↔ k.1.Sublist rest ∧ k.1.length ≤ n ∧ k.2 ∈ k.1
  | 0 => by
    simp only [keysUpTo, List.not_mem_nil, false_iff]
    rintro ⟨_, h2, h3⟩
    have := List.length_pos_of_mem h3
    omega
  | n + 1 => by
    rw [keysUpTo, List.mem_append, mem_keysUpTo (n := n), mem_keysR]
    constructor
    · rintro (⟨h1, h2, h3⟩ | ⟨h1, h2, h3⟩)
      · exact ⟨h1, by omega, h3⟩
      · exact ⟨h1, by omega, h3⟩
    · rintro ⟨h1, h2, h3⟩
      by_cases c : k.1.length ≤ n
      · exact .inl ⟨h1, c, h3⟩
      · exact .inr ⟨h1, by omega, h3⟩
def keysAll (rest : List Int) : List Key := keysUpTo rest rest.length
theorem mem_keysAll {rest : List Int} {k : Key} : k ∈ keysAll rest ↔ k.1.Sublist rest ∧ k.2 ∈ k.1 := by
  unfold keysAll
  rw [mem_keysUpTo]
  constructor
  · rintro ⟨a, _, b⟩; exact ⟨a, b⟩
  · rintro ⟨a, b⟩; exact ⟨a, a.length_le, b⟩
theorem keysR_nodup {rest : List Int} (nd : rest.Nodup) (r : Nat) : (keysR rest r).Nodup := by
  unfold keysR
  have hd : ∀ d ∈ combos r rest, (keysD d).Nodup := by
    intro d hd
    have := (mem_combos.mp hd).1.nodup nd
    unfold keysD
    rw [List.Nodup, List.pairwise_map]
    exact this.imp fun n z => n (Prod.mk.inj z).2
  have hc := combos_nodup r rest nd
  generalize combos r rest = cs at hd hc
  induction cs with
  | nil => exact List.nodup_nil
  | cons d r ih =>
    obtain ⟨h1, h2⟩ := List.nodup_cons.mp hc
    rw [List.flatMap_cons, List.nodup_append]
    refine ⟨hd d (List.mem_cons_self ..), ih (fun x hx => hd x (List.mem_cons_of_mem _ hx)) h2, fun a ha b hb e => ?_⟩
    subst e
    obtain ⟨x, hx, hb⟩ := List.mem_flatMap.mp hb
    obtain ⟨l, _, rfl⟩ := List.mem_map.mp ha
    obtain ⟨l2, _, e2⟩ := List.mem_map.mp hb
    have : x = d := (Prod.mk.inj e2).1
    subst this
    exact h1 hx
theorem keysUpTo_nodup {rest : List Int} (nd : rest.Nodup) : ∀ n, (keysUpTo rest n).Nodup
  | 0 => List.nodup_nil
  | n + 1 => by
    rw [keysUpTo, List.nodup_append]
    refine ⟨keysUpTo_nodup nd n, keysR_nodup nd _, fun a ha b hb e => ?_⟩
    subst e
    have h1 := (mem_keysUpTo.mp ha).2.1
    have h2 := (mem_keysR.mp hb).2.1
    omega
end

/-! ### combinations of a tuple -/
theorem mro_cmb : mroOf (.type "itertools.combinations") = pure [.type "itertools.combinations", .type "object"] := by rw [mroOf_type]; kernel_rfl
theorem look_cmb_new : typeLookup (.type "itertools.combinations") "__new__" = pure (some (.builtin "itertools.combinations.__new__")) := by rw [typeLookup_type, builtinLookup_eq_fast]; kernel_rfl
theorem init_cmb : Slot "itertools.combinations" "__init__" "object.__init__" :=
  .of (owner := "object") (n := "__init__") (by rw [typeLookup_type, builtinLookup_eq_fast]; kernel_rfl) (by decide +kernel) (by decide +kernel) (by decide +kernel)
    (by first | exact .inl (by decide +kernel) | exact .inr (by decide +kernel)) (by rw [isSubtype_type]; kernel_rfl)
theorem sub_cmb : isSubtype (.type "itertools.combinations") (.type "itertools.combinations") = pure true := by rw [isSubtype_type]; kernel_rfl
theorem called_cmb : TypeCalled "itertools.combinations" "itertools.combinations.__new__" "object.__init__" :=
  ⟨by decide +kernel, by decide +kernel, ⟨_, _, mro_cmb⟩, madeBy_type mro_cmb look_cmb_new (by decide +kernel), by decide +kernel, sub_cmb, init_cmb⟩
theorem tcall_cmb (a b : Value) : checkTypeCall "itertools.combinations" ⟨[a, b], []⟩ = pure () := by kernel_rfl
theorem ncall_cmb (a b : Value) : checkBuiltinCall "itertools.combinations.__new__" ⟨[.type "itertools.combinations", a, b], []⟩ = pure () := by kernel_rfl
theorem ent_cmb_new : entryFor table "itertools.combinations.__new__" = some Builtin.«itertools.combinations.__new__» := entryFor_of_tree (by kernel_rfl)
theorem iter_cmb : Slot "itertools.combinations" "__iter__" "itertools.combinations.__iter__" :=
  .of (owner := "itertools.combinations") (n := "__iter__") (by rw [typeLookup_type, builtinLookup_eq_fast]; kernel_rfl) (by decide +kernel) (by decide +kernel) (by decide +kernel)
    (by first | exact .inl (by decide +kernel) | exact .inr (by decide +kernel)) sub_cmb
theorem next_cmb : Slot "itertools.combinations" "__next__" "itertools.combinations.__next__" :=
  .of (owner := "itertools.combinations") (n := "__next__") (by rw [typeLookup_type, builtinLookup_eq_fast]; kernel_rfl) (by decide +kernel) (by decide +kernel) (by decide +kernel)
    (by first | exact .inl (by decide +kernel) | exact .inr (by decide +kernel)) sub_cmb
theorem ent_cmb_iter : entryFor table "itertools.combinations.__iter__" = some Builtin.«dict_keyiterator.__iter__» :=
  entryFor_alias (id' := "dict_keyiterator.__iter__") (by kernel_rfl) (by first | rfl | decide +kernel | (unfold String.splitOn; simp +decide [String.splitOnAux])) (by decide +kernel) (by kernel_rfl)
theorem ent_cmb_next : entryFor table "itertools.combinations.__next__" = some Builtin.«itertools.combinations.__next__» := entryFor_of_tree (by kernel_rfl)
theorem own_cmb : Manifest.owners.lookup (String.ofList ("itertools.combinations".toList)) = some Manifest.sig_itertools_combinations := by kernel_rfl
theorem arg_cmb_iter (a : Value) : argsOk "itertools.combinations.__iter__" ⟨[a], []⟩ := by
  unfold argsOk; rw [signature?_of (id := "itertools.combinations.__iter__") (n := "__iter__".toList.reverse) (o := "itertools.combinations".toList.reverse) (by kernel_rfl) (by rw [List.reverse_reverse]; exact own_cmb)]; kernel_rfl
theorem arg_cmb_next (a : Value) : argsOk "itertools.combinations.__next__" ⟨[a], []⟩ := by
  unfold argsOk; rw [signature?_of (id := "itertools.combinations.__next__") (n := "__next__".toList.reverse) (o := "itertools.combinations".toList.reverse) (by kernel_rfl) (by rw [List.reverse_reverse]; exact own_cmb)]; kernel_rfl
theorem nod_cmb : typeHasDict (.type "itertools.combinations") = false := by decide +kernel
def nextC (n : Nat) (ix : List Nat) : Option (List Nat) := match (List.range ix.length).reverse.find? fun i => ix.getD i 0 != i + n - ix.length with
  | none => none
  | some i => some (ix.take i ++ (List.range (ix.length - i)).map (ix.getD i 0 + 1 + ·))
/-- a combinations object: its pool, how far it is, the last one, the numbers -/
def CmbAt (h : Heap) (it pool : Addr) (st : Int) (last : Value) (ix : List Nat) : Prop := ∃ fs : Array Value, h.get? it = some { cls := .type "itertools.combinations", dict := none, data := .fields fs, slots := #[] } ∧ fs.toList = .ref pool :: .int st 0 :: last :: ix.map fun i : Nat => rawInt i
theorem fs_at {fs : Array Value} {xs : List Value} {i : Nat} {x : Value} (h : fs.toList = xs) (e : xs[i]? = some x) : fs[i]? = some x := by rw [← Array.getElem?_toList, h]; exact e
theorem numbers_of (ix : List Nat) : (ix.map fun i : Nat => rawInt i).map (fun | .int n _ => n.toNat | _ => 0) = ix := by
  induction ix with
  | nil => rfl
  | cons a r ih =>
    rw [List.map_cons, List.map_cons, ih]
    rfl
section
variable {prog : Program} {w : World} {A : Around} {E : Value → Shared → Prop} {s : Shared}
theorem run_numbers {it : Addr} {fs : Array Value} {a b c : Value} {ix : List Nat} {Q : List Nat → Shared → Prop} (hfs : s.heap.get? it = some { cls := .type "itertools.combinations", dict := none, data := .fields fs, slots := #[] }) (lst : fs.toList = a :: b :: c :: ix.map fun i : Nat => rawInt i) (h : Q ix s) : wpAny (model prog w) A (Builtin.Itertools.itNumbersFrom (.ref it) 3) Q E s := by
  unfold Builtin.Itertools.itNumbersFrom
  refine wpAny_bind (wpAny_load hfs (wpAny_pure ?_))
  rw [lst]
  exact Eq.mpr (congrArg (fun z => Q z s) (numbers_of ix)) h
theorem cmb_hand {it pool : Addr} {st : Int} {last : Value} {ix : List Nat} {its : Array Value} {Q : Value → Shared → Prop} (ne : it ≠ pool) (less : ix.length ≤ 1000) (hit : CmbAt s.heap it pool st last ix) (hp : s.heap.IsTuple pool its)
    (hQ : ∀ h', CmbAt h' it pool st (.ref s.heap.objs.size) ix → h'.get? s.heap.objs.size = some { cls := .type "tuple", data := .seq (ix.map fun i => its.toList.getD i .none).toArray } → (∀ b o, b ≠ it → s.heap.get? b = some o → h'.get? b = some o) → Q (.ref s.heap.objs.size) { s with heap := h' }) :
    wpAny (model prog w) A ((Builtin.Itertools.itPoolItems (.ref pool) >>= fun items => newTuple (ix.map fun i => items.getD i .none)) >>= fun result => field (.ref it) 2 >>= fun before => setField (.ref it) 2 result >>= fun _ => letGo [before] [result] >>= fun _ => ret result) (fun fin s' => ∃ v, fin = .done (.ret v) ∧ Q v s') E s := by
  obtain ⟨ol, hol, _, nl, hdl⟩ := hp
  obtain ⟨fs, hfs, lst⟩ := hit
  have lt : it < s.heap.objs.size := Heap.lt_size hfs
  unfold Builtin.Itertools.itPoolItems
  refine wpAny_bind (wpAny_bind (wpAny_bind (wpAny_seqItems hol hdl (wpAny_pure ?_))))
  refine (wpAny_newTuple (hsz := by rw [List.length_map, sizeLine_eq]; omega) ?_)
  have hit2 : (s.heap.push { cls := .type "tuple", data := .seq (ix.map fun i => its.getD i .none).toArray }).get? it = some { cls := .type "itertools.combinations", dict := none, data := .fields fs, slots := #[] } := Heap.get?_push_of_some _ hfs
  refine wpAny_bind (wpAny_field hit2 rfl (x := last) (fs_at lst rfl) ?_)
  have long : 2 < fs.size := by rw [← Array.length_toList, lst]; simp
  refine wpAny_bind (wpAny_setField hit2 rfl long ?_)
  refine wpAny_bind (wpAny_letGo (wpAny_pure ⟨_, rfl, hQ _ ⟨_, Heap.get?_update_self _ hit2 rfl, ?_⟩ ?_ fun b o nb e => ?_⟩))
  · rw [Array.toList_setIfInBounds, lst]; rfl
  · rw [Heap.get?_update_other _ _ (Nat.ne_of_lt lt)]
    have e : (ix.map fun i => its.getD i Value.none) = ix.map fun i => its.toList.getD i .none := by
      congr 1; funext i; simp [Array.getD_eq_getD_getElem?, List.getD_eq_getElem?_getD]
    rw [e]
    exact Heap.get?_push_size _ rfl
  · exact (Heap.get?_update_other _ _ (Ne.symm nb)).trans (Heap.get?_push_of_some _ e)
theorem cmb_first {it pool : Addr} {last : Value} {ix : List Nat} {its : Array Value} {Q : Value → Shared → Prop} (ne : it ≠ pool) (less : ix.length ≤ 1000) (hit : CmbAt s.heap it pool 0 last ix) (hp : s.heap.IsTuple pool its)
    (hQ : ∀ h', CmbAt h' it pool 1 (.ref s.heap.objs.size) ix → h'.get? s.heap.objs.size = some { cls := .type "tuple", data := .seq (ix.map fun i => its.toList.getD i .none).toArray } → (∀ b o, b ≠ it → s.heap.get? b = some o → h'.get? b = some o) → Q (.ref s.heap.objs.size) { s with heap := h' }) :
    wpAny (model prog w) A (Builtin.«itertools.combinations.__next__» ⟨[.ref it], []⟩) (fun fin s' => ∃ v, fin = .done (.ret v) ∧ Q v s') E s := by
  obtain ⟨fs, hfs, lst⟩ := id hit
  show wpAny _ _ (field (.ref it) 0 >>= _) _ _ s
  refine wpAny_bind (wpAny_field hfs rfl (x := .ref pool) (fs_at lst rfl) ?_)
  show wpAny _ _ (Builtin.Itertools.itNumbersFrom (.ref it) 3 >>= _) _ _ s
  refine wpAny_bind (run_numbers hfs lst ?_)
  refine wpAny_bind ?_
  unfold Builtin.Itertools.itIntField
  refine wpAny_bind (wpAny_field hfs rfl (x := .int 0 0) (fs_at lst rfl) (wpAny_pure ?_))
  show wpAny _ _ (setField (.ref it) 1 (rawInt 1) >>= _) _ _ s
  have long : 1 < fs.size := by rw [← Array.length_toList, lst]; simp
  refine wpAny_bind (wpAny_setField hfs rfl long ?_)
  have hit2 : CmbAt (s.heap.update it (Obj.mapFields fun x => x.setIfInBounds 1 (rawInt 1))) it pool 1 last ix := ⟨_, Heap.get?_update_self _ hfs rfl, by rw [Array.toList_setIfInBounds, lst]; rfl⟩
  have hp2 : (s.heap.update it (Obj.mapFields fun x => x.setIfInBounds 1 (rawInt 1))).IsTuple pool its := by
    obtain ⟨ol, hol, c, d⟩ := hp
    exact ⟨ol, (Heap.get?_update_other _ _ ne).trans hol, c, d⟩
  have hz : (s.heap.update it (Obj.mapFields fun x => x.setIfInBounds 1 (rawInt 1))).objs.size = s.heap.objs.size := (Heap.SameBut.update (h := s.heap) (a := it) (f := Obj.mapFields fun x => x.setIfInBounds 1 (rawInt 1))).1
  refine cmb_hand (s := { s with heap := s.heap.update it (Obj.mapFields fun x => x.setIfInBounds 1 (rawInt 1)) }) ne less hit2 hp2 fun h' c t k => ?_
  rw [show ({ s with heap := s.heap.update it (Obj.mapFields fun x => x.setIfInBounds 1 (rawInt 1)) } : Shared).heap.objs.size = s.heap.objs.size from hz] at c t ⊢
  exact hQ h' c t fun b o nb e => k b o nb ((Heap.get?_update_other _ _ (Ne.symm nb)).trans e)
theorem cmb_more {it pool : Addr} {last : Value} {ix jx : List Nat} {its : Array Value} {Q : Value → Shared → Prop} (ne : it ≠ pool) (hit : CmbAt s.heap it pool 1 last ix) (hp : s.heap.IsTuple pool its) (nx : nextC its.size ix = some jx) (less : jx.length ≤ 1000)
    (hQ : ∀ h', CmbAt h' it pool 1 (.ref s.heap.objs.size) jx → h'.get? s.heap.objs.size = some { cls := .type "tuple", data := .seq (jx.map fun i => its.toList.getD i .none).toArray } → (∀ b o, b ≠ it → s.heap.get? b = some o → h'.get? b = some o) → Q (.ref s.heap.objs.size) { s with heap := h' }) :
    wpAny (model prog w) A (Builtin.«itertools.combinations.__next__» ⟨[.ref it], []⟩) (fun fin s' => ∃ v, fin = .done (.ret v) ∧ Q v s') E s := by
  obtain ⟨fs, hfs, lst⟩ := id hit
  show wpAny _ _ (field (.ref it) 0 >>= _) _ _ s
  refine wpAny_bind (wpAny_field hfs rfl (x := .ref pool) (fs_at lst rfl) ?_)
  show wpAny _ _ (Builtin.Itertools.itNumbersFrom (.ref it) 3 >>= _) _ _ s
  refine wpAny_bind (run_numbers hfs lst ?_)
  refine wpAny_bind ?_
  unfold Builtin.Itertools.itIntField
  refine wpAny_bind (wpAny_field hfs rfl (x := .int 1 0) (fs_at lst rfl) (wpAny_pure ?_))
  obtain ⟨ol, hol, c, nl, hdl⟩ := id hp
  show wpAny _ _ (Builtin.Itertools.itPoolItems (.ref pool) >>= _) _ _ s
  refine wpAny_bind ?_
  unfold Builtin.Itertools.itPoolItems
  refine wpAny_bind (wpAny_seqItems hol hdl (wpAny_pure ?_))
  show wpAny _ _ (match nextC its.size ix with | some next => _ | none => _) _ _ _
  rw [nx]
  show wpAny _ _ (Builtin.Itertools.itSetNumbersFrom (.ref it) 3 jx >>= _) _ _ _
  refine wpAny_bind ?_
  unfold Builtin.Itertools.itSetNumbersFrom
  have lst2 : (fs.extract 0 3 ++ (jx.map fun n : Nat => rawInt n).toArray).toList = .ref pool :: .int 1 0 :: last :: jx.map fun i : Nat => rawInt i := by
    rw [Array.toList_append, Array.toList_extract, lst]; rfl
  have small : (fs.extract 0 3 ++ (jx.map fun n : Nat => rawInt n).toArray).size ≤ sizeLine + 3 := by
    rw [← Array.length_toList, lst2, sizeLine_eq]
    simp only [List.length_cons, List.length_map]
    omega
  refine wpAny_updateFields (hz := small) hfs rfl ?_
  have hit2 : CmbAt (s.heap.update it (Obj.mapFields fun fs => fs.extract 0 3 ++ (jx.map fun n : Nat => rawInt n).toArray)) it pool 1 last jx := ⟨_, Heap.get?_update_self _ hfs rfl, lst2⟩
  have hp2 : (s.heap.update it (Obj.mapFields fun fs => fs.extract 0 3 ++ (jx.map fun n : Nat => rawInt n).toArray)).IsTuple pool its := ⟨ol, (Heap.get?_update_other _ _ ne).trans hol, c, nl, hdl⟩
  have hz : (s.heap.update it (Obj.mapFields fun fs => fs.extract 0 3 ++ (jx.map fun n : Nat => rawInt n).toArray)).objs.size = s.heap.objs.size := (Heap.SameBut.update (h := s.heap) (a := it) (f := Obj.mapFields fun fs => fs.extract 0 3 ++ (jx.map fun n : Nat => rawInt n).toArray)).1
  refine cmb_hand (s := { s with heap := s.heap.update it (Obj.mapFields fun fs => fs.extract 0 3 ++ (jx.map fun n : Nat => rawInt n).toArray) }) ne less hit2 hp2 fun h' c t k => ?_
  rw [show ({ s with heap := s.heap.update it (Obj.mapFields fun fs => fs.extract 0 3 ++ (jx.map fun n : Nat => rawInt n).toArray) } : Shared).heap.objs.size = s.heap.objs.size from hz] at c t ⊢
  exact hQ h' c t fun b o nb e => k b o nb ((Heap.get?_update_other _ _ (Ne.symm nb)).trans e)
theorem cmb_end {it pool : Addr} {last : Value} {ix : List Nat} {its : Array Value} {Q : Fin → Shared → Prop} (hh : A.handled = none) (ne : it ≠ pool) (hit : CmbAt s.heap it pool 1 last ix) (hp : s.heap.IsTuple pool its) (nx : nextC its.size ix = none)
    (hE : ∀ h' e, (∀ b o, b ≠ it → s.heap.get? b = some o → h'.get? b = some o) → (∃ o, h'.get? e = some o ∧ o.cls = .type "StopIteration") → E (.ref e) { s with heap := h' }) :
    wpAny (model prog w) A (Builtin.«itertools.combinations.__next__» ⟨[.ref it], []⟩) Q E s := by
  obtain ⟨fs, hfs, lst⟩ := id hit
  show wpAny _ _ (field (.ref it) 0 >>= _) _ _ s
  refine wpAny_bind (wpAny_field hfs rfl (x := .ref pool) (fs_at lst rfl) ?_)
  show wpAny _ _ (Builtin.Itertools.itNumbersFrom (.ref it) 3 >>= _) _ _ s
  refine wpAny_bind (run_numbers hfs lst ?_)
  refine wpAny_bind ?_
  unfold Builtin.Itertools.itIntField
  refine wpAny_bind (wpAny_field hfs rfl (x := .int 1 0) (fs_at lst rfl) (wpAny_pure ?_))
  obtain ⟨ol, hol, c, nl, hdl⟩ := id hp
  show wpAny _ _ (Builtin.Itertools.itPoolItems (.ref pool) >>= _) _ _ s
  refine wpAny_bind ?_
  unfold Builtin.Itertools.itPoolItems
  refine wpAny_bind (wpAny_seqItems hol hdl (wpAny_pure ?_))
  show wpAny _ _ (match nextC its.size ix with | some next => _ | none => _) _ _ _
  rw [nx]
  have long : 1 < fs.size := by rw [← Array.length_toList, lst]; simp
  show wpAny _ _ (setField (.ref it) 1 (rawInt 2) >>= _) _ _ _
  refine wpAny_bind (wpAny_setField hfs rfl long ?_)
  show wpAny _ _ (newExc (.type "StopIteration") [] >>= _) _ _ _
  refine wpAny_bind ?_
  simp only [newExc, newTuple]
  refine wpAny_bind (wpAny_newObj_type ?_ (by size_fits))
  refine wpAny_bind (m := firstArgMember _ _) (wpAny_of_eq (a := Value.none) (by first | rfl | (simp only [firstArgMember]; rfl)) ?_)
  refine wpAny_newObj_type ?_ (by size_fits)
  simp only [raiseNew]
  refine wpAny_bind (wpAny_handled ?_)
  first | rw [show A.in1.handled = none from hh] | rw [hh]
  refine wpAny_bind (wpAny_pure (wpAny_throw ?_))
  exact hE _ _ (fun b o nb e => Heap.get?_push_of_some _ (Heap.get?_push_of_some _ ((Heap.get?_update_other _ _ (Ne.symm nb)).trans e))) ⟨_, Heap.get?_push_size _ rfl, rfl⟩
end
section
variable {prog : Program} {w : World} {A : Around} {E : Value → Shared → Prop} {s : Shared}
theorem cmb_class {a b : Value} {Q : Value × List Value → Shared → Prop} (h : Q (.type "itertools.combinations", [a, b]) s) : wpAny (model prog w) A (Builtin.Itertools.itClassAndRest "combinations" ⟨[.type "itertools.combinations", a, b], []⟩) Q E s := by
  have word : ("itertools." ++ "combinations" : String) = "itertools.combinations" := by decide
  have sub2 : isSubtype (.type "itertools.combinations") (.type ("itertools." ++ "combinations")) = pure true := by rw [word]; exact sub_cmb
  unfold Builtin.Itertools.itClassAndRest
  show wpAny _ _ (isType (.type "itertools.combinations") >>= _) _ _ s
  refine wpAny_bind (wpAny_of_eq (a := true) rfl ?_)
  show wpAny _ _ (isSubtype (.type "itertools.combinations") (.type ("itertools." ++ "combinations")) >>= _) _ _ s
  refine wpAny_bind (wpAny_of_eq (a := true) sub2 ?_)
  exact wpAny_pure h
theorem cmb_bind {a b : Value} {Q : List (Option Value) → Shared → Prop} (h : Q [some a, some b] s) : wpAny (model prog w) A (Builtin.Itertools.itBindNamed "combinations" ["iterable", "r"] 2 2 [a, b] []) Q E s := by
  refine wpAny_of_eq (a := [some a, some b]) ?_ h
  rfl
theorem cmb_size {r : Nat} {t : Tok} {Q : Int → Shared → Prop} (hr : r ≤ 1000) (h : Q r s) : wpAny (model prog w) A (Builtin.Itertools.itSsizeArg (.int (r : Nat) t)) Q E s := by
  unfold Builtin.Itertools.itSsizeArg
  show wpAny _ _ (asIndex (.int (r : Nat) t) >>= _) _ _ s
  refine wpAny_bind (wpAny_of_eq (a := (r : Int)) rfl ?_)
  have hn : ¬ ((decide ((r : Int) < -(2 ^ 63 : Int)) || decide ((r : Int) ≥ (2 ^ 63 : Int))) = true) := by
    rw [decide_eq_false (by omega), decide_eq_false (by omega)]
    decide
  show wpAny _ _ (if (decide ((r : Int) < -(2 ^ 63 : Int)) || decide ((r : Int) ≥ (2 ^ 63 : Int))) = true then _ else _) _ _ s
  rw [if_neg hn]
  exact wpAny_pure h
end
theorem meets_cmb_new (l : Addr) (o : Obj) (items : Array Value) (n : Nat) (r : Nat) (t : Tok) (hc : o.cls = .type "tuple") (hd : o.data = .seq items n) (small : items.size ≤ 1000) (hr : r ≤ items.size) :
    Meets (Builtin.«itertools.combinations.__new__» ⟨[.type "itertools.combinations", .ref l, .int (r : Nat) t], []⟩)
      (fun _ R s => s.heap.get? l = some o ∧ ∀ h' : Heap, (∀ b o', s.heap.get? b = some o' → h'.get? b = some o') →
        R (.ok (.ret (.ref (h'.push { cls := .type "tuple", data := .seq items }).objs.size))) { s with heap := (h'.push { cls := .type "tuple", data := .seq items }).push { cls := .type "itertools.combinations", data := .fields (([.ref h'.objs.size, rawInt 0, .none] ++ (List.range r).map fun i : Nat => rawInt i)).toArray } }) :=
  .of_wp fun prog w A R s h => by
    obtain ⟨ht, h⟩ := h
    have hsz : items.size ≤ sizeLine := by rw [sizeLine_eq]; omega
    refine wpAny_bind ?_
    refine wpAny_bind (cmb_class ?_)
    show wpAny _ _ (Builtin.Itertools.itBindNamed "combinations" ["iterable", "r"] 2 2 [Value.ref l, Value.int (r : Nat) t] [] >>= _) _ _ _
    refine wpAny_bind (cmb_bind ?_)
    show wpAny _ _ (Builtin.Itertools.itSsizeArg (Value.int (r : Nat) t) >>= _) _ _ _
    refine wpAny_bind (cmb_size (by omega) ?_)
    refine wpAny_bind (wpAny_collect_seq (hsz := hsz) l (.inr rfl) ht hc hd fun h' kept => ?_)
    have n1 : ¬ ((r : Int) < 0) := by omega
    have n2 : ¬ (Builtin.Itertools.itTooMany r = true) := by
      unfold Builtin.Itertools.itTooMany
      rw [decide_eq_true_eq]
      omega
    show wpAny _ _ (if (r : Int) < 0 then _ else _) _ _ _
    rw [if_neg n1]
    show wpAny _ _ (if Builtin.Itertools.itTooMany r = true then _ else _) _ _ _
    rw [if_neg n2]
    refine wpAny_bind (wpAny_newTuple (hsz := by simpa using hsz) ?_)
    refine wpAny_pure ?_
    have e1 : (if (r : Int).toNat > items.toList.length then (2 : Int) else 0) = 0 := by rw [if_neg]; simp; omega
    show wpAny _ _ (Builtin.Itertools.itNewRecord (.type "itertools.combinations") ([Value.ref h'.objs.size, rawInt (if (r : Int).toNat > items.toList.length then 2 else 0), .none] ++ (List.range (r : Int).toNat).map fun i : Nat => rawInt i) >>= _) _ _ _
    rw [e1]
    refine wpAny_bind ?_
    unfold Builtin.Itertools.itNewRecord
    show wpAny _ _ (if (!typeHasDict (.type "itertools.combinations")) = true then _ else _) _ _ _
    rw [nod_cmb]
    show wpAny _ _ (newObj (.type "itertools.combinations") (.fields (([Value.ref h'.objs.size, rawInt 0, .none] ++ (List.range r).map fun i : Nat => rawInt i)).toArray)) _ _ _
    refine wpAny_newObj_type (hd := ?hsize) ?_
    case hsize =>
      show (([Value.ref h'.objs.size, rawInt 0, Value.none] ++ (List.range r).map fun i : Nat => rawInt i)).toArray.size ≤ _
      rw [List.size_toArray, List.length_append, List.length_map, List.length_range]
      have := sizeLine_eq
      show 3 + r ≤ _
      omega
    refine wpAny_pure ⟨_, rfl, ?_⟩
    have := h h' kept
    simpa using this
theorem call_cmb {prog : Program} {w : World} {A : Around} {E : Value → Shared → Prop} {s : Shared} {l : Addr} {items : Array Value} {r : Nat} {t : Tok} {Q : Value → Shared → Prop} (tup : s.heap.IsTuple l items) (small : items.size ≤ 1000) (hr : r ≤ items.size)
    (h : ∀ (h0 h' : Heap) (it pool : Addr), it ≠ pool → CmbAt h' it pool 0 .none (List.range r) → h'.IsTuple pool items → h0.objs.size ≤ it → h0.objs.size ≤ pool → (∀ b o, s.heap.get? b = some o → h0.get? b = some o) → (∀ b o, h0.get? b = some o → h'.get? b = some o) → Q (.ref it) { s with heap := h' }) :
    wpAny (model prog w) A (call (.type "itertools.combinations") [.ref l, .int (r : Nat) t]) Q E s := by
  obtain ⟨o, ho, hc, n, hd⟩ := tup
  refine callType_new called_cmb (by decide +kernel) (tcall_cmb _ _) (ncall_cmb _ _) (fun obj => F.args_object_init_3 obj _ _) ent_cmb_new (meets_cmb_new l o items n r t hc hd small hr) ⟨ho, fun h' kept => ?_⟩
  show _ ∧ _
  refine ⟨⟨_, Heap.get?_push_size _ rfl, rfl⟩, h h' _ _ h'.objs.size ?_ ⟨_, Heap.get?_push_size _ rfl, by simp [rawInt]⟩ ⟨_, Heap.get?_push_of_some _ (Heap.get?_push_size _ rfl), rfl, _, rfl⟩ ?_ (Nat.le_refl _) kept fun b o e => Heap.get?_push_of_some _ (Heap.get?_push_of_some _ e)⟩
  · rw [Heap.size_push]
    exact Nat.succ_ne_self _
  · rw [Heap.size_push]
    exact Nat.le_succ _
def chainOk (n r : Nat) : Bool := decide ((combos r (List.range n))[0]? = some (List.range r)) && (List.range (combos r (List.range n)).length).all fun i => decide (nextC n ((combos r (List.range n)).getD i []) = (combos r (List.range n))[i + 1]?)
theorem chain_all : ∀ n < 8, ∀ r < 8, 1 ≤ r → r ≤ n → chainOk n r = true := by decide +kernel
theorem chain_0 {n r : Nat} (h7 : n ≤ 7) (h1 : 1 ≤ r) (hr : r ≤ n) : (combos r (List.range n))[0]? = some (List.range r) := by
  have h := chain_all n (by omega) r (by omega) h1 hr
  unfold chainOk at h
  rw [Bool.and_eq_true] at h
  exact of_decide_eq_true h.1
theorem chain_s {n r i : Nat} {ix : List Nat} (h7 : n ≤ 7) (h1 : 1 ≤ r) (hr : r ≤ n) (e : (combos r (List.range n))[i]? = some ix) : nextC n ix = (combos r (List.range n))[i + 1]? := by
  have h := chain_all n (by omega) r (by omega) h1 hr
  unfold chainOk at h
  rw [Bool.and_eq_true] at h
  obtain ⟨lt, q⟩ := List.getElem?_eq_some_iff.mp e
  have z := of_decide_eq_true (List.all_eq_true.mp h.2 i (List.mem_range.mpr lt))
  rw [List.getD_eq_getElem?_getD, e] at z
  exact z
theorem ns_range (ns : List Int) : ns = (List.range ns.length).map fun j => ns.getD j 0 := by
  refine List.ext_getElem (by simp) fun i h1 h2 => ?_
  rw [List.getElem_map, List.getElem_range, List.getD_eq_getElem?_getD, List.getElem?_eq_getElem h1]
  rfl
theorem combos_at (r : Nat) (ns : List Int) : combos r ns = (combos r (List.range ns.length)).map (List.map fun j => ns.getD j 0) := by
  have e := combos_map (fun j => ns.getD j 0) r (List.range ns.length)
  rw [← ns_range] at e
  exact e
theorem vals_pick {ns : List Int} {its : List Value} (h : Vals (ns.map V.int) its) : ∀ {jx : List Nat}, (∀ j ∈ jx, j < ns.length) → Vals ((jx.map fun j => ns.getD j 0).map V.int) (jx.map fun i => its.getD i .none)
  | [], _ => .nil
  | j :: r, hj => by
    refine .cons ?_ (vals_pick h fun x hx => hj x (List.mem_cons_of_mem _ hx))
    have lt := hj j (List.mem_cons_self ..)
    obtain ⟨u, hu, ru⟩ := h.get (i := j) (x := .int ns[j]) (by rw [List.getElem?_map, List.getElem?_eq_getElem lt]; rfl)
    have e1 : ns.getD j 0 = ns[j] := by rw [List.getD_eq_getElem?_getD, List.getElem?_eq_getElem lt]; rfl
    have e2 : its.getD j .none = u := by rw [List.getD_eq_getElem?_getD, hu]; rfl
    show RelV (V.int (ns.getD j 0)) (its.getD j .none)
    rw [e1, e2]
    exact ru
section
variable {P : Program} {w : World} {K : PySem.W.Frag}
def Itc (ds : List (List Int)) : It :=
  ⟨fun i _ => i < ds.length, fun i H v H' => ∃ p d, ds[i]? = some d ∧ v = .ref p ∧ H p = none ∧ H' = upd H p (.tup (d.map V.int)), fun i _ => ds.length ≤ i⟩
theorem pyNext_cmb {A : Around} {E : Value → Shared → Prop} {s : Shared} {it pool : Addr} {st : Int} {last : Value} {ix : List Nat} {Q : Option Value → Shared → Prop} (hit : CmbAt s.heap it pool st last ix)
    (h : wpAny (model P w) A.in1 (Builtin.«itertools.combinations.__next__» ⟨[.ref it], []⟩) (fun fin s' => ∃ v, fin = .done (.ret v) ∧ Q (some v) s') (fun e s' => (∃ b o, e = .ref b ∧ s'.heap.get? b = some o ∧ o.cls = .type "StopIteration") ∧ Q none s') s) : wpAny (model P w) A (pyNext (.ref it)) Q E s := by
  obtain ⟨fs, hfs, _⟩ := id hit
  have hT : s.TypeIs (.ref it) "itertools.combinations" := ⟨_, hfs, rfl⟩
  unfold pyNext
  refine wpAny_bind (wpAny_attempt (wpAny_callSpecial?_slot (name := Str.ofString "__next__") hT next_cmb (wpAny_call_entry next_cmb hT ent_cmb_next ?_ (arg_cmb_next _))))
  refine wpAny_mono h (fun fin s' z => ?_) (fun e s' z => ?_)
  · obtain ⟨v, rfl, q⟩ := z
    exact ⟨v, rfl, wpAny_pure q⟩
  · obtain ⟨⟨b, o, rfl, ho, hc⟩, q⟩ := z
    refine wpAny_bind (wpAny_isInstance (T := "StopIteration") (b := true) ⟨o, ho, hc⟩ isSubtype_stop ?_)
    exact wpAny_pure q
theorem turn_cmb {tg : Expr} {it pool : Addr} {r : Nat} {ns : List Int} {its : Array Value} (ne : it ≠ pool) (h7 : ns.length ≤ 7) (h1 : 1 ≤ r) (hr : r ≤ ns.length) (rv : Vals (ns.map V.int) its.toList) (hs : its.size = ns.length) :
    Turn P w K tg (Itc (combos r ns)) [it, pool] it (fun i h => ∃ (st : Int) (last : Value) (ix : List Nat), CmbAt h it pool st last ix ∧ h.IsTuple pool its ∧ (i = 0 ∧ st = 0 ∧ ix = List.range r ∨ ∃ j, i = j + 1 ∧ st = 1 ∧ (combos r (List.range ns.length))[j]? = some ix)) where
  mem := List.mem_cons_self ..
  obj := fun i h stands b hb => by
    obtain ⟨st, last, ix, ⟨fs, hfs, _⟩, ⟨o, ho, _, n, hd⟩, _⟩ := stands
    rcases List.mem_cons.mp hb with e | hb
    · rw [e]
      exact ⟨_, hfs, fun v z => nomatch z⟩
    · rw [List.mem_singleton.mp hb]
      exact ⟨o, ho, fun v z => by rw [hd] at z; cases z⟩
  keep := fun i h h' stands k => by
    obtain ⟨st, last, ix, ⟨fs, hfs, lst⟩, ⟨o, ho, c, n, hd⟩, q⟩ := stands
    exact ⟨st, last, ix, ⟨fs, k it (List.mem_cons_self ..) _ hfs, lst⟩, ⟨o, k pool (List.mem_cons_of_mem _ (List.mem_cons_self ..)) _ ho, c, n, hd⟩, q⟩
  item := by
    intro X eP ew eK calm i pins s σ H E I free stands less
    subst eP ew eK
    obtain ⟨st, last, ix, hit, tup, which⟩ := stands
    have lt : it < s.heap.objs.size := by obtain ⟨_, e, _⟩ := hit; exact Heap.lt_size e
    have ltp : pool < s.heap.objs.size := by obtain ⟨_, e, _⟩ := tup; exact Heap.lt_size e
    have all := combos_at r ns
    have fin : ∀ (jx : List Nat), (combos r (List.range ns.length))[i]? = some jx → ∀ h' : Heap, CmbAt h' it pool 1 (.ref s.heap.objs.size) jx → h'.get? s.heap.objs.size = some { cls := .type "tuple", data := .seq (jx.map fun i => its.toList.getD i .none).toArray } → (∀ b o, b ≠ it → s.heap.get? b = some o → h'.get? b = some o) →
        ∃ u, some (Value.ref s.heap.objs.size) = some u ∧ wpAny (model X.prog X.w) X.A (letOwnedTupleGo tg (.ref it) u) (fun _ s2 => ∃ x H', L2.Inv X pins σ H' s2 ∧ RelV x u ∧ (Itc (combos r ns)).yld i H x H' ∧ (∃ (st : Int) (last : Value) (ix : List Nat), CmbAt s2.heap it pool st last ix ∧ s2.heap.IsTuple pool its ∧ (i + 1 = 0 ∧ st = 0 ∧ ix = List.range r ∨ ∃ j, i + 1 = j + 1 ∧ st = 1 ∧ (combos r (List.range ns.length))[j]? = some ix)) ∧ ∀ b ∈ [it, pool], H' b = none) E { s with heap := h' } := by
      intro jx hj h' c t k
      have memj := List.mem_of_getElem? hj
      have small : jx.length ≤ 7 := by have := (mem_combos.mp memj).2; omega
      have each : ∀ j ∈ jx, j < ns.length := fun j hjm => List.mem_range.mp ((mem_combos.mp memj).1.subset hjm)
      obtain ⟨fs, hfs, lst⟩ := id c
      refine ⟨_, rfl, go_of (s := { s with heap := h' }) hfs rfl rfl (by decide) ?_⟩
      have new : ObjOk X.prog X.w (upd H s.heap.objs.size (.tup ((jx.map fun j => ns.getD j 0).map V.int))) h' s.heap.objs.size (.tup ((jx.map fun j => ns.getD j 0).map V.int)) := by
        refine ⟨?_, _, vals_pick rv each, ⟨_, t, rfl, _, rfl⟩⟩
        show ((jx.map fun j => ns.getD j 0).map V.int).length ≤ sizeLine
        rw [List.length_map, List.length_map, sizeLine_eq]
        omega
      have I1 : L2.Inv X pins σ (upd H s.heap.objs.size (.tup ((jx.map fun j => ns.getD j 0).map V.int))) { s with heap := h' } :=
        I.turnedNew (t' := s.toks) (ch := [it, pool]) (fun b o nb e => k b o (fun z => nb (by rw [z]; exact List.mem_cons_self ..)) e) free (Nat.le_refl _) new
      refine ⟨.ref s.heap.objs.size, _, I1, rfl, ⟨_, _, ?_, rfl, I.hok.fresh (Nat.le_refl _), rfl⟩, ⟨1, _, jx, c, ?_, .inr ⟨i, rfl, rfl, hj⟩⟩, fun b hb => ?_⟩
      · rw [all, List.getElem?_map, hj]; rfl
      · obtain ⟨o, ho, c2, d⟩ := tup
        exact ⟨o, k _ _ (Ne.symm ne) ho, c2, d⟩
      · rcases List.mem_cons.mp hb with e | hb
        · rw [e, upd_ne (Nat.ne_of_lt lt)]
          exact (free it (List.mem_cons_self ..)).1
        · rw [List.mem_singleton.mp hb, upd_ne (Nat.ne_of_lt ltp)]
          exact (free pool (List.mem_cons_of_mem _ (List.mem_cons_self ..))).1
    refine pyNext_cmb hit ?_
    have lessN : i < (combos r (List.range ns.length)).length := by
      have z : i < (combos r ns).length := less
      rw [all, List.length_map] at z
      exact z
    rcases which with ⟨rfl, rfl, rfl⟩ | ⟨j, rfl, rfl, hj⟩
    · exact cmb_first ne (by rw [List.length_range]; omega) hit tup fun h' c t k => fin _ (chain_0 h7 h1 hr) h' c t k
    · have nx := chain_s h7 h1 hr hj
      rw [List.getElem?_eq_getElem lessN] at nx
      have memj := List.getElem_mem lessN
      have small := (mem_combos.mp memj).2
      exact cmb_more ne hit tup (by rw [hs]; exact nx) (by omega) fun h' c t k => fin _ (List.getElem?_eq_getElem lessN) h' c t k
  done := by
    intro X eP ew eK calm i pins s σ H E I free stands most
    subst eP ew eK
    obtain ⟨st, last, ix, hit, tup, which⟩ := stands
    have all := combos_at r ns
    have mostN : (combos r (List.range ns.length)).length ≤ i := by
      have z : (combos r ns).length ≤ i := most
      rw [all, List.length_map] at z
      exact z
    obtain ⟨f0, f1, f2, f3, f4, f5⟩ := free it (List.mem_cons_self ..)
    refine pyNext_cmb hit ?_
    rcases which with ⟨rfl, rfl, rfl⟩ | ⟨j, rfl, rfl, hj⟩
    · have := chain_0 h7 h1 hr
      rw [List.getElem?_eq_none mostN] at this
      cases this
    · have nx := chain_s h7 h1 hr hj
      rw [List.getElem?_eq_none mostN] at nx
      exact cmb_end (I.ok.hd calm) ne hit tup (by rw [hs]; exact nx) fun h' e k he => ⟨⟨e, he.choose, rfl, he.choose_spec.1, he.choose_spec.2⟩, rfl, I.turned (t' := s.toks) k f0 f1 f3 f4 f5⟩
  self := fun A i s Q E stands h => by
    obtain ⟨st, last, ix, ⟨fs, hfs, _⟩, _⟩ := stands
    have hT : s.TypeIs (.ref it) "itertools.combinations" := ⟨_, hfs, rfl⟩
    refine wpAny_pyIter_slot hT iter_cmb (wpAny_call_entry iter_cmb hT ent_cmb_iter ?_ (arg_cmb_iter _))
    show wpAny _ _ (ret (.ref it)) _ _ s
    exact wpAny_pure ⟨_, rfl, "itertools.combinations", _, hT, next_cmb.lookup, h⟩
end
section
variable {X : Cx} {tg : Expr}
def iCmb (K : PySem.W.Frag) (ta : TA) : TI := fun σ H R => ta σ H fun vs H1 => ∃ (a : Addr) (ns : List Int) (r : Nat), vs = [.ref a, .int (r : Nat)] ∧ SqT K H1 a (ns.map V.int) ∧ ns.length ≤ 7 ∧ 1 ≤ r ∧ r ≤ ns.length ∧ R (Itc (combos r ns)) H1
theorem pi_cmb {a b : Expr} {ta : TA} {p pos : Pos} (hg : Gl X "combinations") (hm : X.mg "combinations" = some (.type "itertools.combinations")) (ha : PA X [a, b] ta) (hs : starEach [a, b] X.env = [(false, eval a X.env), (false, eval b X.env)] := by rfl) (hs2 : starEach [b] X.env = [(false, eval b X.env)] := by rfl) :
    PI X tg (.Call (.Name "combinations" p) [a, b] [] pos) (iCmb X.K ta) := by
  refine ⟨fun pins s σ H R I h => ?_⟩
  refine Call_ (ld_glob I hg hm (PyProof.Rows.callWith_type1 (thn (ha.run pos pins s σ H _ I h) fun us s1 ⟨vs, H1, I1, r1, q1⟩ => ?_) (by rw [hs, hs2]) (by rw [hs2]; rfl)))
  obtain ⟨l, ns, r, e, sq, h7, h1, hr, q⟩ := q1
  subst e
  cases r1 with
  | cons ra rr =>
    cases rr with
    | cons rb rr =>
      cases rr
      cases ra
      obtain ⟨t, rfl⟩ := rb
      obtain ⟨its, rv, pl, _⟩ := I1.tuple sq
      have size : its.toArray.size = ns.length := by rw [List.size_toArray, ← rv.length]; exact List.length_map _
      refine call_cmb pl (by omega) (by omega) fun h0 h' it pool ne hit tup l1 l2 kept0 kept => ?_
      have I0 : L2.Inv X pins σ H1 { s1 with heap := h0 } := I1.kept kept0
      have I2 : L2.Inv X pins σ H1 { s1 with heap := h' } := I0.kept kept
      refine wpAny_pyIter_slot (T := "itertools.combinations") ?_ iter_cmb (wpAny_call_entry (T := "itertools.combinations") iter_cmb ?_ ent_cmb_iter ?_ (arg_cmb_iter _))
      · obtain ⟨fs, hfs, _⟩ := hit
        exact ⟨_, hfs, rfl⟩
      · obtain ⟨fs, hfs, _⟩ := hit
        exact ⟨_, hfs, rfl⟩
      show wpAny _ _ (ret (.ref it)) _ _ _
      refine wpAny_pure ⟨_, rfl, "itertools.combinations", _, (by obtain ⟨fs, hfs, _⟩ := hit; exact ⟨_, hfs, rfl⟩), next_cmb.lookup, ?_⟩
      refine ⟨it, [it, pool], _, Itc (combos r ns), H1, rfl, I2, turn_cmb ne h7 h1 hr (by simpa using rv) size, ⟨0, .none, List.range r, hit, tup, .inl ⟨rfl, rfl, rfl⟩⟩, fun b hb => ?_, q⟩
      rcases List.mem_cons.mp hb with e | hb
      · rw [e]
        exact I0.fpOk l1 (I0.hok.fresh l1)
      · rw [List.mem_singleton.mp hb]
        exact I0.fpOk l2 (I0.hok.fresh l2)
end
theorem walk_cmb {ds : List (List Int)} : Walk (Itc ds) ds.length (fun _ => True) (fun i H v H' => ∃ p d, ds[i]? = some d ∧ v = .ref p ∧ H p = none ∧ H' = upd H p (.tup (d.map V.int))) :=
  ⟨fun _ _ hi _ => hi, fun _ _ => Nat.le_refl _, fun _ _ _ _ _ _ y => y⟩

theorem room9 {k : Nat} {A : Around} (h : Room k A) : A.units + 9 < cLine := by have := h.un; omega
theorem room10 {k : Nat} {A : Around} (h : Room k A) : A.units + 10 < cLine := by have := h.un; omega
theorem room65 {k : Nat} {A : Around} (h : Room k A) : A.units + 65 < cLine := by have := h.un; omega
/-! ### dicts whose keys are tuples within tuples -/
mutual
/-- a value that is such a key -/
inductive KeyV (H : Hp) : NestedKey → V → Prop
  | non : KeyV H .none .non
  | int (i : Int) : KeyV H (.num i) (.int i)
  | str (x : Str) : KeyV H (.text x) (.str x)
  | tup {a : Addr} {ks : List NestedKey} {xs : List V} (e : H a = some (.tup xs)) (h : KeysV H ks xs) : KeyV H (.tup ks) (.ref a)
inductive KeysV (H : Hp) : List NestedKey → List V → Prop
  | nil : KeysV H [] []
  | cons {k : NestedKey} {x : V} {ks : List NestedKey} {xs : List V} (h : KeyV H k x) (t : KeysV H ks xs) : KeysV H (k :: ks) (x :: xs)
end
mutual
theorem KeyV.mono {H H' : Hp} (e : ∀ a xs, H a = some (.tup xs) → H' a = some (.tup xs)) : ∀ {k : NestedKey} {x : V}, KeyV H k x → KeyV H' k x
  | _, _, .non => .non
  | _, _, .int i => .int i
  | _, _, .str x => .str x
  | _, _, .tup h t => .tup (e _ _ h) (KeysV.mono e t)
theorem KeysV.mono {H H' : Hp} (e : ∀ a xs, H a = some (.tup xs) → H' a = some (.tup xs)) : ∀ {ks : List NestedKey} {xs : List V}, KeysV H ks xs → KeysV H' ks xs
  | _, _, .nil => .nil
  | _, _, .cons h t => .cons (KeyV.mono e h) (KeysV.mono e t)
end
theorem tup_stands {P : Program} {w : World} {H : Hp} {h : Heap} {a : Addr} {xs : List V} (ok : HOk P w H h) (e : H a = some (.tup xs)) : ∃ (o : Obj) (its : List Value) (n : Nat), h.get? a = some o ∧ o.cls = .type "tuple" ∧ o.data = .seq its.toArray n ∧ Vals xs its := by
  obtain ⟨_, its, rv, o, g, c, n, d⟩ := (show ObjOk P w H h a (.tup xs) from ok a _ e)
  exact ⟨o, its, n, g, c, d, rv⟩
mutual
theorem KeyV.is {P : Program} {w : World} {H : Hp} {h : Heap} (ok : HOk P w H h) : ∀ {k : NestedKey} {x : V} {v : Value}, KeyV H k x → RelV x v → NestedIs h k v
  | _, _, _, .non, r => by cases r; exact .none
  | _, _, _, .int i, r => by obtain ⟨t, rfl⟩ := r; exact .int i t
  | _, _, _, .str x, r => by obtain ⟨t, rfl⟩ := r; exact .text x t
  | _, _, _, .tup e t, r => by
    cases r
    obtain ⟨o, its, n, g, c, d, rv⟩ := tup_stands ok e
    exact .tup g c d (KeysV.is ok t rv)
theorem KeysV.is {P : Program} {w : World} {H : Hp} {h : Heap} (ok : HOk P w H h) : ∀ {ks : List NestedKey} {xs : List V} {vs : List Value}, KeysV H ks xs → Vals xs vs → NestedAll h ks vs
  | _, _, _, .nil, r => by cases r; exact .nil
  | _, _, _, .cons a b, r => by
    cases r with
    | cons r1 r2 => exact .cons (KeyV.is ok a r1) (KeysV.is ok b r2)
end
/-- an entry: the key, where its tuple stands, the value -/
abbrev NEnt := NestedKey × Addr × V
def EntR (p : NEnt) (q : NestedKey × Addr × Value) : Prop := p.1 = q.1 ∧ p.2.1 = q.2.1 ∧ RelV p.2.2 q.2.2
/-- the dict at d: what of it its own object tells -/
def DN (P : Program) (w : World) (d : Addr) (xs : List NEnt) : HO := .ext fun h => xs.length ≤ sizeLine ∧ (d == sysModules) = false ∧ ∃ vs, Paired EntR xs vs ∧
  ∃ o es ep, h.get? d = some o ∧ o.ExactDict ∧ o.data = .dict es ep ∧ es.toList = vs.map (entryOfKey (nestedKind P w))
/-- its keys stand -/
def NOk (H : Hp) (xs : List NEnt) : Prop := (∀ p ∈ xs, KeyV H p.1 (.ref p.2.1) ∧ p.1.depth ≤ 8) ∧ (xs.map (·.1)).Nodup
theorem NOk.mono {H H' : Hp} {xs : List NEnt} (e : ∀ a xs, H a = some (.tup xs) → H' a = some (.tup xs)) (h : NOk H xs) : NOk H' xs := ⟨fun p hp => ⟨(h.1 p hp).1.mono e, (h.1 p hp).2⟩, h.2⟩
theorem ent_keys : ∀ {xs : List NEnt} {vs : List (NestedKey × Addr × Value)}, Paired EntR xs vs → vs.map (·.1) = xs.map (·.1)
  | [], _, h => by cases h; rfl
  | x :: xs, _, h => by
    cases h with
    | cons r t => rw [List.map_cons, List.map_cons, ent_keys t, r.1]
theorem ent_mem : ∀ {xs : List NEnt} {vs : List (NestedKey × Addr × Value)}, Paired EntR xs vs → ∀ q ∈ vs, ∃ p ∈ xs, EntR p q
  | [], _, h, q, m => by cases h; cases m
  | x :: xs, _, h, q, m => by
    cases h with
    | cons r t =>
      rcases List.mem_cons.mp m with e | m
      · subst e
        exact ⟨x, List.mem_cons_self .., r⟩
      · obtain ⟨p, hp, e⟩ := ent_mem t q m
        exact ⟨p, List.mem_cons_of_mem _ hp, e⟩
theorem dn_get {P : Program} {w : World} {H : Hp} {h : Heap} {d : Addr} {xs : List NEnt} (ok : HOk P w H h) (e : Rd H d (DN P w d xs)) (n : NOk H xs) : xs.length ≤ sizeLine ∧ (d == sysModules) = false ∧ ∃ vs, Paired EntR xs vs ∧ h.DictOfH (nestedKind P w) d vs := by
  obtain ⟨hl, hd, vs, pr, o, es, ep, g, c, dt, el⟩ := (e.ok ok).1
  refine ⟨hl, hd, vs, pr, o, es, ep, g, c, dt, el, fun q hq => ?_, by rw [ent_keys pr]; exact n.2⟩
  obtain ⟨p, hp, e1, e2, _⟩ := ent_mem pr q hq
  obtain ⟨k1, k2⟩ := n.1 p hp
  rw [← e1, ← e2]
  exact ⟨k1.is ok rfl, k2⟩
theorem dn_new {P : Program} {w : World} {H : Hp} {h : Heap} {d : Addr} {xs : List NEnt} {vs : List (NestedKey × Addr × Value)} (hl : xs.length ≤ sizeLine) (hd : (d == sysModules) = false) (pr : Paired EntR xs vs) (dh : h.DictOfH (nestedKind P w) d vs) : ObjOk P w H h d (DN P w d xs) := by
  obtain ⟨o, es, ep, g, c, dt, el, _, _⟩ := dh
  refine ⟨⟨hl, hd, vs, pr, o, es, ep, g, c, dt, el⟩, ⟨o, g⟩, ?_⟩
  rintro h1 h2 ⟨hl, hd, vs, pr, o, es, ep, g, c, dt, el⟩ k
  exact ⟨hl, hd, vs, pr, o, es, ep, k _ g, c, dt, el⟩
/-- the value of a key -/
def atN (xs : List NEnt) (k : NestedKey) : Option V := match xs with
  | [] => none
  | x :: r => if x.1 = k then some x.2.2 else atN r k
theorem atKey_pos {y : NestedKey × Addr × Value} {ys : List (NestedKey × Addr × Value)} {k : NestedKey} (h : y.1 = k) : atKey (y :: ys) k = some y.2 := by
  unfold atKey
  simp [h]
theorem atKey_neg {y : NestedKey × Addr × Value} {ys : List (NestedKey × Addr × Value)} {k : NestedKey} (h : ¬ y.1 = k) : atKey (y :: ys) k = atKey ys k := by
  unfold atKey
  simp [h]
theorem atN_rel (k : NestedKey) : ∀ {xs : List NEnt} {vs : List (NestedKey × Addr × Value)}, Paired EntR xs vs → (atN xs k = none ∧ atKey vs k = none) ∨ ∃ v p, atN xs k = some v ∧ atKey vs k = some p ∧ RelV v p.2
  | [], _, h => by cases h; exact .inl ⟨rfl, rfl⟩
  | x :: xs, _, h => by
    cases h with
    | @cons _ y _ ys r t =>
      by_cases c : x.1 = k
      · refine .inr ⟨x.2.2, y.2, ?_, atKey_pos (r.1 ▸ c), r.2.2⟩
        unfold atN
        rw [if_pos c]
      · have e1 : atN (x :: xs) k = atN xs k := by
          show (if x.1 = k then some x.2.2 else atN xs k) = _
          rw [if_neg c]
        rw [e1, atKey_neg (r.1 ▸ c)]
        exact atN_rel k t
theorem atN_isSome (k : NestedKey) {xs : List NEnt} {vs : List (NestedKey × Addr × Value)} (h : Paired EntR xs vs) : (atKey vs k).isSome = (atN xs k).isSome := by
  rcases atN_rel k h with ⟨a, b⟩ | ⟨v, p, a, b, _⟩ <;> rw [a, b] <;> rfl
section
variable {X : Cx}
/-- a question about the dict: its own address, the key's -/
def AskN (P : Program) (w : World) (a d : Addr) (k : NestedKey) (xs : List NEnt) (H : Hp) : Prop := Rd H d (DN P w d xs) ∧ NOk H xs ∧ KeyV H k (.ref a) ∧ k.depth ≤ 8
theorem AskN.kind {pins : List (Addr × Obj)} {σ : L2.St} {H : Hp} {s : Shared} {a d : Addr} {k : NestedKey} {xs : List NEnt} (I : L2.Inv X pins σ H s) (h : AskN X.prog X.w a d k xs H) : (nestedKind X.prog X.w).is s.heap k a := ⟨h.2.2.1.is I.hok rfl, h.2.2.2⟩
def rInN (P : Program) (w : World) (neg : Bool) : R2 := fun x y H Q => ∃ (a d : Addr) (k : NestedKey) (xs : List NEnt), x = .ref a ∧ y = .ref d ∧ AskN P w a d k xs H ∧ Q (.bl (if neg then !(atN xs k).isSome else (atN xs k).isSome)) H
theorem op_inN (hu : X.A.units + 9 < cLine) : OpR X (compareOp .In) (rInN X.prog X.w false) := by
  intro ps0 st0 σ0 H0 xr yr vr ur W0 Inv0 relx rely asked
  obtain ⟨a, d, k, xs, rfl, rfl, ask, wish⟩ := asked
  cases relx
  cases rely
  obtain ⟨hl, hd, vs, pr, dh⟩ := dn_get Inv0.hok ask.1 ask.2.1
  refine wpAny_in_heap (knd := nestedKind X.prog X.w) (by show X.A.units + 1 + 8 < cLine; omega) (ask.kind Inv0) hd dh ?_
  exact ⟨.bl (atN xs k).isSome, H0, Inv0.tok _, (by rw [atN_isSome k pr]; rfl), wish⟩
theorem op_notInN (hu : X.A.units + 9 < cLine) : OpR X (compareOp .NotIn) (rInN X.prog X.w true) := by
  intro ps0 st0 σ0 H0 xr yr vr ur W0 Inv0 relx rely asked
  obtain ⟨a, d, k, xs, rfl, rfl, ask, wish⟩ := asked
  cases relx
  cases rely
  obtain ⟨hl, hd, vs, pr, dh⟩ := dn_get Inv0.hok ask.1 ask.2.1
  refine notIn_keyed (knd := nestedKind X.prog X.w) (kvs := pairsH vs) (by show X.A.units + 1 + 8 < cLine; omega) (ask.kind Inv0) hd ⟨vs, dh, rfl⟩ ?_
  exact ⟨.bl (!(atN xs k).isSome), H0, Inv0.tok _, (by rw [valueAt_pairsH, Option.isSome_map, atN_isSome k pr]; rfl), wish⟩
def rIxN (P : Program) (w : World) : R2 := fun x y H Q => ∃ (a d : Addr) (k : NestedKey) (xs : List NEnt) (v : V), x = .ref d ∧ y = .ref a ∧ AskN P w a d k xs H ∧ atN xs k = some v ∧ Q v H
theorem ix_nd (hu : X.A.units + 9 < cLine) : IxR X (rIxN X.prog X.w) := by
  intro value slice ps0 st0 σ0 H0 xr yr vr ur W0 Inv0 relx rely asked plain
  obtain ⟨a, d, k, xs, v, rfl, rfl, ask, isAt, wish⟩ := asked
  cases relx
  cases rely
  obtain ⟨hl, hd, vs, pr, dh⟩ := dn_get Inv0.hok ask.1 ask.2.1
  rcases atN_rel k pr with ⟨no, _⟩ | ⟨v2, p, e1, e2, rv⟩
  · rw [no] at isAt; cases isAt
  obtain rfl : v = v2 := Option.some.inj (isAt.symm.trans e1)
  exact tail_any dh.typeIs PySem.F.slot_dict_getitem.lookup (wpAny_getItem_heap (knd := nestedKind X.prog X.w) (by show X.A.units + 1 + 8 < cLine; omega) (ask.kind Inv0) dh e2 ⟨v, H0, Inv0.tok _, rv, wish⟩) plain
/-- the entries behind a store -/
def putN (xs : List NEnt) (k : NestedKey) (a : Addr) (v : V) : List NEnt := if (atN xs k).isSome then xs.map (fun x => if x.1 = k then (x.1, x.2.1, v) else x) else xs ++ [(k, a, v)]
theorem ent_map {k : NestedKey} {v : V} {u : Value} (r : RelV v u) : ∀ {xs : List NEnt} {vs : List (NestedKey × Addr × Value)}, Paired EntR xs vs → Paired EntR (xs.map (fun x => if x.1 = k then (x.1, x.2.1, v) else x)) (vs.map (putAt k u))
  | [], _, h => by cases h; exact .nil
  | x :: xs, _, h => by
    cases h with
    | @cons _ y _ ys r1 t =>
      refine .cons ?_ (ent_map r t)
      by_cases c : x.1 = k
      · show EntR (if x.1 = k then (x.1, x.2.1, v) else x) (if y.1 = k then (y.1, y.2.1, u) else y)
        rw [if_pos c, if_pos (r1.1 ▸ c)]
        exact ⟨r1.1, r1.2.1, r⟩
      · show EntR (if x.1 = k then (x.1, x.2.1, v) else x) (if y.1 = k then (y.1, y.2.1, u) else y)
        rw [if_neg c, if_neg (r1.1 ▸ c)]
        exact r1
theorem ent_snoc {x : NEnt} {y : NestedKey × Addr × Value} (r : EntR x y) : ∀ {xs : List NEnt} {vs : List (NestedKey × Addr × Value)}, Paired EntR xs vs → Paired EntR (xs ++ [x]) (vs ++ [y])
  | [], _, h => by cases h; exact .cons r .nil
  | _ :: _, _, h => by
    cases h with
    | cons r1 t => exact .cons r1 (ent_snoc r t)
theorem ent_put {k : NestedKey} {a : Addr} {v : V} {u : Value} {xs : List NEnt} {vs : List (NestedKey × Addr × Value)} (r : RelV v u) (h : Paired EntR xs vs) : Paired EntR (putN xs k a v) (storedH vs k a u) := by
  unfold putN storedH
  rw [atN_isSome k h]
  split
  · exact ent_map r h
  · exact ent_snoc ⟨rfl, rfl, r⟩ h
theorem putN_len (xs : List NEnt) (k : NestedKey) (a : Addr) (v : V) : (putN xs k a v).length ≤ xs.length + 1 := by
  unfold putN
  split
  · rw [List.length_map]; omega
  · rw [List.length_append]; exact Nat.le_refl _
def sDPutN (P : Program) (w : World) (td ty tv : TE) : TS := fun D σ H => tv σ H fun v H1 => td σ H1 fun x H2 => ty σ H2 fun y H3 => ∃ (a d : Addr) (k : NestedKey) (xs : List NEnt), x = .ref d ∧ y = .ref a ∧ AskN P w a d k xs H3 ∧ H3 d = some (DN P w d xs) ∧ xs.length < sizeLine ∧ D.nx σ (upd H3 d (DN P w d (putN xs k a v)))
theorem ps_dputN {o i value : Expr} {td ty tv : TE} {pos' pos : Pos} (hu : X.A.units + 9 < cLine) (ho : PE X o td) (hi : PE X i ty) (hv : PE X value tv) (hs : swapsWith value (some (.Subscript o i pos')) pos.line X.env = pure false) :
    PS X (.Assign [.Subscript o i pos'] value pos) (sDPutN X.prog X.w td ty tv) := by
  refine ⟨fun ps0 st0 σ0 H0 D0 Inv0 asked => ?_⟩
  have first := hv.run ps0 st0 σ0 H0 _ Inv0 asked
  refine wpAny_Assign_Subscript (thn first ?_) hs
  rintro r1 st1 ⟨v, H1, I1, rv, ask1⟩
  refine thn (ho.run ps0 st1 σ0 H1 _ I1 ask1) ?_
  rintro r2 st2 ⟨x, H2, I2, rx, ask2⟩
  refine thn (hi.run ps0 st2 σ0 H2 _ I2 ask2) ?_
  rintro r3 st3 ⟨y, H3, I3, ry, a, d, k, xs, rfl, rfl, ask, own, less, wish⟩
  cases rx
  cases ry
  obtain ⟨hl, hd, vs, pr, dh⟩ := dn_get I3.hok ask.1 ask.2.1
  refine wpAny_setItem_heap (knd := nestedKind X.prog X.w) (hsz := by rw [← Paired.length pr]; exact hl) (by show X.A.units + 1 + 8 < cLine; omega) (ask.kind I3) dh fun h' dh' same => ?_
  have stands : ∃ q, h'.get? d = some q := let ⟨q, _, _, hq, _⟩ := dh'; ⟨q, hq⟩
  exact ⟨σ0, upd H3 d (DN X.prog X.w d (putN xs k a v)), d_write I3 (by rw [own]; exact True.intro) same stands (dn_new (by have := putN_len xs k a v; omega) hd (ent_put rv pr) dh'), wish⟩
theorem dn_empty {P : Program} {w : World} {H : Hp} (h : Heap) (big : sysModules < h.objs.size) : ObjOk P w H (h.push { cls := .type "dict", data := .dict #[] }) h.objs.size (DN P w h.objs.size []) :=
  dn_new (vs := []) (Nat.zero_le _) (beq_eq_false_iff_ne.mpr (Ne.symm (Nat.ne_of_lt big))) .nil (Heap.DictOfH.new h)
/-- {}, to be such a dict -/
def tNewN (P : Program) (w : World) : TE := fun _ H Q => ∀ d, H d = none → Q (.ref d) (upd H d (DN P w d []))
theorem pe_newN {pos : Pos} : PE X (.Dict [] [] pos) (tNewN X.prog X.w) := ⟨fun ps0 st0 σ0 H0 W0 Inv0 asked =>
  wpAny_Dict_empty ⟨.ref st0.heap.objs.size, _, Inv0.laid (a := st0.heap.objs.size) (o := DN X.prog X.w st0.heap.objs.size []) (t' := st0.toks) (fun _ _ z => Heap.get?_push_of_some _ z) (Nat.le_refl _) (dn_empty st0.heap Inv0.big), rfl, asked _ (Inv0.hok.fresh (Nat.le_refl _))⟩⟩
/-- the dict's own object, of its entries nothing asked -/
theorem dn_obj {P : Program} {w : World} {H : Hp} {h : Heap} {d : Addr} {xs : List NEnt} (ok : HOk P w H h) (e : Rd H d (DN P w d xs)) : ∃ o, h.get? d = some o ∧ o.ExactDict := by
  obtain ⟨_, _, _, _, o, _, _, g, c, _⟩ := (e.ok ok).1
  exact ⟨o, g, c⟩
def rLenN (P : Program) (w : World) : List V → Hp → VK → Prop := fun vs H Q => ∃ (d : Addr) (xs : List NEnt), vs = [.ref d] ∧ Rd H d (DN P w d xs) ∧ NOk H xs ∧ Q (.int ((xs.length : Nat) : Int)) H
theorem call_lenN : CallR X (.builtin "len") (rLenN X.prog X.w) := by
  intro ps0 st0 σ0 H0 args us W0 Inv0 rel asked
  obtain ⟨d, xs, rfl, isD, keys, wish⟩ := asked
  obtain ⟨u, rfl, ru⟩ := vals1 rel
  obtain rfl : u = .ref d := ru
  obtain ⟨hl, hd, vs, pr, dh⟩ := dn_get Inv0.hok isD keys
  have same := Paired.length pr
  refine call_len_dictH hd dh (by rw [← same]; rw [sizeLine_eq] at hl; omega) ?_
  rw [← same]
  exact ⟨.int ((xs.length : Nat) : Int), H0, Inv0.tok _, ⟨_, rfl⟩, wish⟩
def rIsN (P : Program) (w : World) (K : PySem.W.Frag) : List V → Hp → VK → Prop := fun vs H Q => ∃ (d : Addr) (xs : List NEnt) (c : V) (u : Value) (b : Bool), vs = [.ref d, c] ∧ Rd H d (DN P w d xs) ∧ ClsV c u ∧ PySem.W.kitOne K (.type "dict") u = some b ∧ Q (.bl b) H
theorem call_isN : CallR X (.builtin "isinstance") (rIsN X.prog X.w X.K) := by
  intro ps0 st0 σ0 H0 args us W0 Inv0 rel asked
  obtain ⟨d, xs, c, u, b, rfl, isD, cv, e, wish⟩ := asked
  obtain ⟨u1, u2, rfl, r1, r2⟩ := vals2 rel
  obtain rfl : u1 = .ref d := r1
  obtain rfl := cv.eq r2
  obtain ⟨o, g, ex⟩ := dn_obj Inv0.hok isD
  exact PySem.W.kia_one PySem.W.kitx_dict Inv0.kIn ⟨o, g, ex.1⟩ e (fun z => nomatch z) fun tk => ⟨.bl b, H0, Inv0.tok tk, rfl, wish⟩
def tClearN (P : Program) (w : World) (to : TE) : TE := fun σ H Q => to σ H fun x H1 => ∃ (d : Addr) (xs : List NEnt), x = .ref d ∧ H1 d = some (DN P w d xs) ∧ NOk H1 xs ∧ Q .non (upd H1 d (DN P w d []))
theorem pe_clearN {o : Expr} {to : TE} {apos cpos : Pos} (ho : PE X o to) (hbase : attributeBase o "clear" X.env (eval o X.env) = eval o X.env := by rfl) (hline : (apos.endLine == cpos.line) = true := by rfl) : PE X (.Call (.Attribute o "clear" apos) [] [] cpos) (tClearN X.prog X.w to) := by
  refine ⟨fun ps0 st0 σ0 H0 W0 Inv0 asked => ?_⟩
  refine wpAny_Call_method0_late hbase hline (thn (ho.run ps0 st0 σ0 H0 _ Inv0 asked) ?_)
  rintro v1 st1 ⟨x, H1, I1, r1, d, xs, rfl, isD, keys, wish⟩
  cases r1
  obtain ⟨ob, g, ex⟩ := dn_obj I1.hok (.inl isD)
  obtain ⟨hl, hd, vs, pr, dh⟩ := dn_get I1.hok (.inl isD) keys
  refine ⟨"dict", "dict.clear", PySem.F.plainAttrs_dict, PySem.F.slot_dict_clear, PySem.F.type_dict_clear, ⟨ob, g, ex.1⟩, fun a e => ⟨ob, by cases e; exact g, ex.2.1⟩, Calls.callWith_builtin rfl (PySem.evalArgs_none ?_)⟩
  refine clear_keyed (knd := nestedKind X.prog X.w) (kvs := pairsH vs) ⟨vs, dh, rfl⟩ (fun h' dk same => ?_) (by rw [pairsH_length, ← Paired.length pr]; exact hl)
  obtain ⟨vs2, dh2, e2⟩ := dk
  obtain rfl : vs2 = [] := List.eq_nil_of_length_eq_zero (by rw [← pairsH_length, e2]; rfl)
  have stands : ∃ q, h'.get? d = some q := let ⟨q, _, _, hq, _⟩ := dh2; ⟨q, hq⟩
  exact ⟨.non, upd H1 d (DN X.prog X.w d []), d_write I1 (by rw [isD]; exact True.intro) same stands (dn_new (Nat.zero_le _) hd .nil dh2), rfl, wish⟩
/-! ### for k in d, d such a dict -/
theorem dn_frz {P : Program} {w : World} {H : Hp} {h : Heap} {d : Addr} {ob : Obj} {xs : List NEnt} (ok : HOk P w H h) (e : H d = some (.frz ob (DN P w d xs))) : (d == sysModules) = false ∧ h.get? d = some ob ∧ ob.ExactDict ∧ ∃ es ep, ob.data = .dict es ep ∧ es.size = xs.length ∧ ∀ (i : Nat) (x : NEnt), xs[i]? = some x → ∃ en, es[i]? = some en ∧ en.key = .ref x.2.1 := by
  obtain ⟨here, ⟨_, hd, vs, pr, o, es, ep, g, c, dt, el⟩, _⟩ := (show ObjOk P w H h d (.frz ob (DN P w d xs)) from ok d _ e)
  rw [here] at g
  cases g
  refine ⟨hd, here, c, es, ep, dt, (size_of_entries el).trans (Paired.length pr).symm, fun i x hx => ?_⟩
  obtain ⟨y, hy, r⟩ := paired_get pr hx
  have z := entry_at el i
  rw [hy] at z
  exact ⟨_, z, congrArg Value.ref r.2.1.symm⟩
def Itkn (P : Program) (w : World) (d : Addr) (ob : Obj) (xs : List NEnt) : It :=
  ⟨fun i H => H d = some (.frz ob (DN P w d xs)) ∧ i < xs.length, fun i H v H' => H' = H ∧ ∃ x, xs[i]? = some x ∧ v = .ref x.2.1, fun i H => H d = some (.frz ob (DN P w d xs)) ∧ xs.length ≤ i⟩
theorem turn_keysN {P : Program} {w : World} {K : PySem.W.Frag} {tg : Expr} {d : Addr} {ob : Obj} {es : Array DictEntry} {ep : Nat} {xs : List NEnt} (it : Addr) (hdata : ob.data = .dict es ep) : Turn P w K tg (Itkn P w d ob xs) [it] it (fun i h => h.IsKeyIter it d i xs.length ep) where
  mem := List.mem_cons_self ..
  obj := fun i h stands b hb => by
    obtain rfl : b = it := by simpa using hb
    obtain ⟨oi, g, _, dd⟩ := stands
    exact ⟨oi, g, fun v z => by rw [dd] at z; cases z⟩
  keep := fun i h h' stands k => stands.at fun oi g => k it (List.mem_cons_self ..) oi g
  item := by
    intro X eP ew eK calm i pins s σ H E I free stands ⟨isD, less⟩
    subst eP ew eK
    obtain ⟨f0, f1, f2, f3, f4, f5⟩ := free it (List.mem_cons_self ..)
    obtain ⟨hd, here, ex, es', ep', dt, size, ent⟩ := dn_frz I.hok isD
    obtain ⟨rfl, rfl⟩ := dict_ep hdata dt
    have hx : xs[i]? = some xs[i] := List.getElem?_eq_getElem less
    obtain ⟨en, hen, key⟩ := ent i _ hx
    refine next_key_item stands here dt size hen fun h' stands' same => ?_
    have I1 : L2.Inv X pins σ H { s with heap := h' } := I.turned (t' := s.toks) (fun b o hb g => (same.2 b hb).trans g) f0 f1 f3 f4 f5
    obtain ⟨oi, g, c, dd⟩ := id stands'
    exact ⟨en.key, rfl, go_of (s := { s with heap := h' }) g c dd (by decide) ⟨.ref xs[i].2.1, H, I1, key, ⟨rfl, _, hx, rfl⟩, stands', fun b hb => (free b hb).1⟩⟩
  done := by
    intro X eP ew eK calm i pins s σ H E I free stands ⟨isD, most⟩
    subst eP ew eK
    obtain ⟨f0, f1, f2, f3, f4, f5⟩ := free it (List.mem_cons_self ..)
    obtain ⟨hd, here, ex, es', ep', dt, size, ent⟩ := dn_frz I.hok isD
    obtain ⟨rfl, rfl⟩ := dict_ep hdata dt
    exact next_key_end (I.ok.hd calm) stands here dt size most fun h' but => ⟨rfl, I.turned (t' := s.toks) (fun b o hb g => but b o hb g) f0 f1 f3 f4 f5⟩
  self := fun A i s Q E stands h => wpAny_pyIter_keyiter stands h
def iKeysN (P : Program) (w : World) (td : TE) : TI := fun σ H R => td σ H fun x H1 => ∃ (d : Addr) (ob : Obj) (xs : List NEnt), x = .ref d ∧ H1 d = some (.frz ob (DN P w d xs)) ∧ R (Itkn P w d ob xs) H1
theorem pi_keysN {tg e : Expr} {td : TE} (he : PE X e td) : PI X tg e (iKeysN X.prog X.w td) := by
  refine ⟨fun ps0 st0 σ0 H0 R0 Inv0 asked => ?_⟩
  refine thn (he.run ps0 st0 σ0 H0 _ Inv0 asked) ?_
  rintro u st1 ⟨x, H1, I1, rx, d, ob, xs, rfl, isD, wish⟩
  obtain rfl : u = .ref d := rx
  obtain ⟨hd, here, ex, es, ep, dt, size, ent⟩ := dn_frz I1.hok isD
  refine iter_keys hd here ex dt (pi_one (tk := st1.toks) I1 _ (turn_keysN _ dt) ⟨_, Heap.get?_push_size _ rfl, rfl, ?_⟩ wish)
  rw [size]
  rfl
theorem walk_keysN {P : Program} {w : World} {d : Addr} {ob : Obj} {xs : List NEnt} : Walk (Itkn P w d ob xs) xs.length (fun H => H d = some (.frz ob (DN P w d xs))) (fun i H v H' => H' = H ∧ ∃ x, xs[i]? = some x ∧ v = .ref x.2.1) :=
  ⟨fun _ _ hi q => ⟨q, hi⟩, fun _ q => ⟨q, Nat.le_refl _⟩, fun _ _ _ _ _ _ y => y⟩
end

/-! ### two such dicts of the same content -/
section
variable {prog : Program} {w : World} {A : Around} {E : Value → Shared → Prop} {s : Shared} {Ky : Type} [DecidableEq Ky] {knd : HeapKind prog w Ky}
theorem pairs_same {nm : String} {a b : Addr} {xa xb : List (Ky × Addr × Value)} {Q : Bool → Shared → Prop} (room : knd.room A) (na : (a == sysModules) = false) (nb : (b == sysModules) = false)
    (da : s.heap.DictOfH knd a xa) (db : s.heap.DictOfH knd b xb) (long : xa.length = xb.length) (each : ∀ x ∈ xa, ∃ y ∈ xb, y.1 = x.1 ∧ SeqAt.EqAt A s x.2.2 y.2.2 true) (wish : Q true s) :
    wpAny (model prog w) A (Builtin.Dict.samePairs nm a b) Q E s := by
  obtain ⟨oa, ea, epa, ga, _, ta, la, ka, _⟩ := da
  obtain ⟨ob, eb, epb, gb, _, tb, lb, kb, ub⟩ := db
  have za : ea.size = xa.length := size_of_entries la
  have zb : eb.size = xb.length := size_of_entries lb
  unfold Builtin.Dict.samePairs Builtin.Dict.showsAll
  rw [if_neg (by rw [na]; exact Bool.false_ne_true), if_neg (by rw [nb]; exact Bool.false_ne_true)]
  refine wpAny_bind (wpAny_pure (wpAny_bind (wpAny_pure ?_)))
  refine wpAny_bind (wpAny_dictEntries ga ta ?_)
  dsimp only
  refine wpAny_bind (wpAny_dictEntries gb tb ?_)
  rw [if_neg (by rw [za, zb, long]; simp)]
  refine wpAny_bind (wpAny_dictEpoch ga ta ?_)
  refine wpAny_bind ?_
  rw [Std.Legacy.Range.forIn_eq_forIn_range']
  simp only [Std.Legacy.Range.size, Nat.sub_zero, Nat.add_sub_cancel, Nat.div_one]
  refine wpAny_forIn_list _ (fun rest q s' => s' = s ∧ q = (none, ()) ∧ ∃ i, rest = List.range' i (ea.size - i) ∧ i ≤ ea.size) _ ?_ ?_ _ _ ⟨rfl, rfl, 0, by simp, Nat.zero_le _⟩
  · rintro x rest q s' ⟨rfl, rfl, i, hr, hi⟩
    have less : i < ea.size := by
      rcases Nat.lt_or_ge i ea.size with h | h
      · exact h
      · rw [Nat.sub_eq_zero_of_le h] at hr
        simp at hr
    have e1 : ea.size - i = (ea.size - (i + 1)) + 1 := by omega
    rw [e1, List.range'_succ] at hr
    injection hr with h1 hrest
    subst h1
    refine wpAny_bind (wpAny_dictEntries ga ta ?_)
    rw [Array.getElem?_eq_getElem less]
    have lessx : x < xa.length := by omega
    have at_x := entry_at la x
    rw [Array.getElem?_eq_getElem less, List.getElem?_eq_getElem lessx] at at_x
    have ex : ea[x] = entryOfKey knd xa[x] := Option.some.inj at_x
    obtain ⟨y, hy, same, eqv⟩ := each _ (List.getElem_mem lessx)
    obtain ⟨j, hj⟩ := List.mem_iff_getElem?.mp hy
    show wpAny _ _ (holding [ea[x].key, ea[x].val] _ >>= _) _ _ _
    rw [ex]
    refine wpAny_bind (wpAny_holding (wpAny_bind (wpAny_dictFind_heap room (ka _ (List.getElem_mem lessx)) gb tb lb kb ub (fun none_ => ?_) fun j2 p2 h2 => ?_)))
    · exact absurd hj (by have := none_ j y.2; rw [← same] at this; exact this)
    · have yx : (xa[x].1, p2) = y := by
        have m2 := List.mem_of_getElem? h2
        obtain ⟨i1, hi1⟩ := List.getElem?_eq_some_iff.mp hj
        obtain ⟨i2, hi2⟩ := List.getElem?_eq_some_iff.mp h2
        have un := (List.nodup_iff_pairwise_ne.mp ub)
        by_cases c : j = j2
        · subst c
          exact Option.some.inj (h2.symm.trans hj)
        · exfalso
          have key1 : (xb.map (·.1))[j]'(by rw [List.length_map]; exact i1) = xa[x].1 := by rw [List.getElem_map, hi1, same]
          have key2 : (xb.map (·.1))[j2]'(by rw [List.length_map]; exact i2) = xa[x].1 := by rw [List.getElem_map, hi2]
          exact c ((List.getElem_inj ub).mp (key1.trans key2.symm))
      refine wpAny_bind (wpAny_dictEntries gb tb ?_)
      have at_j := entry_at lb j2
      rw [h2] at at_j
      have lj : j2 < eb.size := by
        rcases Nat.lt_or_ge j2 eb.size with h | h
        · exact h
        · rw [Array.getElem?_eq_none h] at at_j; cases at_j
      rw [at_j]
      have val : (entryOfKey knd (xa[x].1, p2)).val = y.2.2 := by rw [← yx]; rfl
      show wpAny _ _ (holding [(entryOfKey knd (xa[x].1, p2)).val] _) _ _ _
      rw [val]
      refine wpAny_holding (eqv prog w _ _ ?_)
      show wpAny _ _ (if (!true) = true then _ else _) _ _ _
      rw [if_neg (by decide)]
      refine wpAny_bind (wpAny_dictEpoch ga ta ?_)
      rw [if_neg (by simp)]
      exact wpAny_pure ⟨rfl, rfl, x + 1, hrest, less⟩
  · rintro q s' ⟨rfl, rfl, i, hr, hi⟩
    exact wpAny_pure wish
end
section
variable {X : Cx}
theorem dictsEq_run {prog : Program} {w : World} {A : Around} {E : Value → Shared → Prop} {s : Shared} {Ky : Type} [DecidableEq Ky] {knd : HeapKind prog w Ky} {a b : Addr} {xa xb : List (Ky × Addr × Value)} {Q : Value → Shared → Prop} (room : knd.room A.in1) (na : (a == sysModules) = false) (nb : (b == sysModules) = false)
    (da : s.heap.DictOfH knd a xa) (db : s.heap.DictOfH knd b xb) (hu : A.units < cLine) (long : xa.length = xb.length) (each : ∀ x ∈ xa, ∃ y ∈ xb, y.1 = x.1 ∧ SeqAt.EqAt A.in1 s x.2.2 y.2.2 true) (wish : Q (.bool true) s) :
    wpAny (model prog w) A (compareOp .Eq (.ref a) (.ref b)) Q E s := by
  refine wpAny_richCompare_same_room (op := .Eq) da.typeIs db.typeIs PySem.F.slot_dict_eq (wpAny_call_entry PySem.F.slot_dict_eq da.typeIs PySem.F.entry_dict_eq ?_ (PySem.F.args_dict_eq_2 _ _)) hu
  show wpAny _ _ (Builtin.Dict.dictSlotArgs "__eq__" ⟨[.ref a, .ref b], []⟩ >>= _) _ _ s
  refine wpAny_bind ?_
  unfold Builtin.Dict.dictSlotArgs
  refine wpAny_bind (wpAny_notOrdered_dict da.typeIs ?_)
  show wpAny _ _ (pure (Value.ref a, Value.ref b)) _ _ s
  refine wpAny_pure ?_
  refine wpAny_bind (wpAny_isInstance (T := "dict") db.typeIs PySem.F.sub_dict_dict ?_)
  simp only [Bool.not_true, Bool.false_eq_true, if_false]
  refine wpAny_bind (wpAny_pure (wpAny_bind (wpAny_pure ?_)))
  refine wpAny_bind (pairs_same room na nb da db long each ?_)
  exact wpAny_pure ⟨_, rfl, (fun x => nomatch x), by simpa using wish⟩
theorem atN_mem {xs : List NEnt} {k : NestedKey} {v : V} (h : atN xs k = some v) : ∃ a, (k, a, v) ∈ xs := by
  induction xs with
  | nil => cases h
  | cons x r ih =>
    by_cases c : x.1 = k
    · have e : atN (x :: r) k = some x.2.2 := by unfold atN; rw [if_pos c]
      rw [e] at h
      refine ⟨x.2.1, ?_⟩
      rw [← c, ← Option.some.inj h]
      exact List.mem_cons_self ..
    · have e : atN (x :: r) k = atN r k := by
        show (if x.1 = k then some x.2.2 else atN r k) = _
        rw [if_neg c]
      rw [e] at h
      obtain ⟨a, m⟩ := ih h
      exact ⟨a, List.mem_cons_of_mem _ m⟩
theorem ent_of : ∀ {xs : List NEnt} {vs : List (NestedKey × Addr × Value)}, Paired EntR xs vs → ∀ p ∈ xs, ∃ q ∈ vs, EntR p q
  | [], _, h, p, m => by cases m
  | x :: xs, _, h, p, m => by
    cases h with
    | @cons _ y _ ys r t =>
      rcases List.mem_cons.mp m with e | m
      · subst e
        exact ⟨y, List.mem_cons_self .., r⟩
      · obtain ⟨q, hq, e⟩ := ent_of t p m
        exact ⟨q, List.mem_cons_of_mem _ hq, e⟩
/-- two such dicts that hold the same -/
def rEqN (P : Program) (w : World) (K : PySem.W.Frag) : R2 := fun x y H Q => ∃ (a b : Addr) (xa xb : List NEnt), x = .ref a ∧ y = .ref b ∧ Rd H a (DN P w a xa) ∧ Rd H b (DN P w b xb) ∧ NOk H xa ∧ NOk H xb ∧ xa.length = xb.length ∧ (∀ e ∈ xa, ∃ v d, atN xb e.1 = some v ∧ Dp K H e.2.2 d ∧ Dp K H v d ∧ SeqAt.shaped d = true) ∧ Q (.bl true) H
theorem op_eqN (hu : X.A.units + 65 < cLine) : OpR X (compareOp .Eq) (rEqN X.prog X.w X.K) := by
  intro ps0 st0 σ0 H0 xr yr vr ur W0 Inv0 relx rely asked
  obtain ⟨a, b, xa, xb, rfl, rfl, isA, isB, ka, kb, long, each, wish⟩ := asked
  cases relx
  cases rely
  obtain ⟨_, na, va, pa, da⟩ := dn_get Inv0.hok isA ka
  obtain ⟨_, nb, vb, pb, db⟩ := dn_get Inv0.hok isB kb
  refine dictsEq_run (knd := nestedKind X.prog X.w) (by show X.A.units + 1 + 8 < cLine; omega) na nb da db (by omega) (by rw [← Paired.length pa, ← Paired.length pb]; exact long) (fun q hq => ?_) ⟨.bl true, H0, Inv0, rfl, wish⟩
  obtain ⟨p, hp, r1⟩ := ent_mem pa q hq
  obtain ⟨v, d, isAt, d1, d2, sh⟩ := each p hp
  obtain ⟨ad, m⟩ := atN_mem isAt
  obtain ⟨q2, hq2, r2⟩ := ent_of pb _ m
  obtain ⟨as, reads1⟩ := Dp.reads Inv0 d _ _ d1 r1.2.2
  obtain ⟨bs, reads2⟩ := Dp.reads Inv0 d _ _ d2 r2.2.2
  have same := PySem.W.keq_at (A := X.A) reads1 reads2 sh sh (by show X.A.units + 1 + 64 < cLine; omega)
  rw [SeqAt.eqv_refl d (SeqAt.canLay_of_shaped sh)] at same
  exact ⟨q2, hq2, by rw [← r2.1, ← r1.1], same⟩
end


/-! ### dict(d), d such a dict -/
theorem stored_app {Ky : Type} [DecidableEq Ky] : ∀ (more kvs : List (Ky × Addr × Value)), (more.map (·.1)).Nodup → (∀ x ∈ more, ∀ y ∈ kvs, y.1 ≠ x.1) → storedAllH kvs more = kvs ++ more
  | [], kvs, _, _ => by
    show kvs = kvs ++ []
    rw [List.append_nil]
  | x :: r, kvs, nd, ap => by
    have step : storedH kvs x.1 x.2.1 x.2.2 = kvs ++ [x] := by
      unfold storedH
      have no : atKey kvs x.1 = none := by
        unfold atKey
        rw [List.find?_eq_none.mpr (fun y hy => by simpa using ap x (List.mem_cons_self ..) y hy)]
        rfl
      rw [no]
      rfl
    rw [List.map_cons, List.nodup_cons] at nd
    show storedAllH (storedH kvs x.1 x.2.1 x.2.2) r = _
    rw [step, stored_app r (kvs ++ [x]) nd.2 (fun z hz y hy => ?_), List.append_assoc]
    · rfl
    · rcases List.mem_append.mp hy with hy | hy
      · exact ap z (List.mem_cons_of_mem _ hz) y hy
      · rw [List.mem_singleton.mp hy]
        exact fun e => nd.1 (e ▸ List.mem_map_of_mem hz)
theorem dict_again {prog : Program} {w : World} {A : Around} {E : Value → Shared → Prop} {s : Shared} {Ky : Type} [DecidableEq Ky] {knd : HeapKind prog w Ky} {o : Addr} {more : List (Ky × Addr × Value)} {Q : Value → Shared → Prop} (room : knd.room A.in1.in1) (no : (o == sysModules) = false) (st : knd.Stays)
    (dm : s.heap.DictOfH knd o more) (apart : (more.map fun x => knd.hash x.1).Nodup) (size : more.length ≤ sizeLine)
    (wish : ∀ h', h'.DictOfH knd s.heap.objs.size more → Heap.SameBut s.heap.objs.size (s.heap.push { cls := .type "dict", data := .dict #[] }) h' → Q (.ref s.heap.objs.size) { s with heap := h' }) :
    wpAny (model prog w) A (call (.type "dict") [.ref o]) Q E s := by
  refine callType_codes (Q₁ := fun obj s₁ => obj = .ref s.heap.objs.size ∧ s₁ = { s with heap := s.heap.push { cls := .type "dict", data := .dict #[] } }) PySem.F.kt_called_dict (PySem.F.kt_typeCall_dict_1 _) PySem.F.entry_dict_init (kt_code_dict_new _ ⟨rfl, rfl⟩) ?_
  rintro obj s₁ ⟨rfl, rfl⟩
  have new : (s.heap.push { cls := .type "dict", data := .dict #[] }).DictOfH knd s.heap.objs.size [] := Heap.DictOfH.new s.heap
  obtain ⟨ob, es, ep, g, c, dt, el, is, nd⟩ := id dm
  have stay : ∀ x ∈ more, knd.is (s.heap.push { cls := .type "dict", data := .dict #[] }) x.1 x.2.1 := fun x hx => st.stays (fun b q _ _ e _ => Heap.get?_push_of_some _ e) (is x hx)
  have there : (s.heap.push { cls := .type "dict", data := .dict #[] }).DictOfH knd o more := ⟨ob, es, ep, Heap.get?_push_of_some _ g, c, dt, el, stay, nd⟩
  have other : s.heap.objs.size ≠ o := fun e => absurd (Heap.lt_size g) (by rw [e]; exact Nat.lt_irrefl _)
  refine ⟨new.typeIs, PySem.F.args_dict_init_2 _ _, ?_⟩
  unfold Builtin.«dict.__init__»
  refine wpAny_bind ?_
  unfold Builtin.Dict.selfAndRest
  refine wpAny_bind (wpAny_notOrdered_dict new.typeIs ?_)
  show wpAny _ _ (pure (s.heap.objs.size, [Value.ref o])) _ _ _
  refine wpAny_pure ?_
  refine updateFrom_dictH (nm := "dict.__init__") .none room other no new there (.inr ⟨fun x hx => st.tuple (s := { s with heap := s.heap.push { cls := .type "dict", data := .dict #[] } }) (stay x hx), apart⟩) (by simpa using size) fun h' d1 d2 same => ?_
  rw [stored_app more [] nd (fun _ _ y hy => by cases hy)] at d1
  exact ⟨rfl, wish h' d1 same⟩
section
variable {X : Cx}
def rDictN (P : Program) (w : World) : List V → Hp → VK → Prop := fun vs H Q => ∃ (d : Addr) (xs : List NEnt), vs = [.ref d] ∧ Rd H d (DN P w d xs) ∧ NOk H xs ∧ (xs.map fun x => (nestedKind P w).hash x.1).Nodup ∧ ∀ p, H p = none → Q (.ref p) (upd H p (DN P w p xs))
theorem ent_hash {P : Program} {w : World} {xs : List NEnt} {vs : List (NestedKey × Addr × Value)} (h : Paired EntR xs vs) : (vs.map fun x => (nestedKind P w).hash x.1) = xs.map fun x => (nestedKind P w).hash x.1 := by
  have e := congrArg (List.map (nestedKind P w).hash) (ent_keys h)
  rw [List.map_map, List.map_map] at e
  exact e
theorem call_dictN (hu : X.A.units + 10 < cLine) : CallR X (.type "dict") (rDictN X.prog X.w) := by
  intro ps0 st0 σ0 H0 args us W0 Inv0 rel asked
  obtain ⟨d, xs, rfl, isD, keys, apart, wish⟩ := asked
  obtain ⟨u, rfl, ru⟩ := vals1 rel
  obtain rfl : u = .ref d := ru
  obtain ⟨hl, hd, vs, pr, dh⟩ := dn_get Inv0.hok isD keys
  refine dict_again (knd := nestedKind X.prog X.w) (by show X.A.units + 1 + 1 + 8 < cLine; omega) hd nestedKind_stays dh (by rw [ent_hash pr]; exact apart) (by rw [← Paired.length pr]; exact hl) fun h' dh' same => ?_
  refine ⟨.ref st0.heap.objs.size, upd H0 st0.heap.objs.size (DN X.prog X.w st0.heap.objs.size xs), Inv0.laid (a := st0.heap.objs.size) (o := DN X.prog X.w st0.heap.objs.size xs) (t' := st0.toks) (fun b q hq => ?_) (Nat.le_refl _) (dn_new hl (beq_eq_false_iff_ne.mpr (Ne.symm (Nat.ne_of_lt Inv0.big))) pr dh'), rfl, wish _ (Inv0.hok.fresh (Nat.le_refl _))⟩
  exact (same.2 b (Nat.ne_of_lt (Heap.lt_size hq))).trans (Heap.get?_push_of_some _ hq)
end


/-! ### set(t), t a tuple of numbers -/
section
variable {X : Cx}
def rSetTup (K : PySem.W.Frag) (w : World) : List V → Hp → VK → Prop := fun vs H Q => ∃ (l : Addr) (ns : List Int), vs = [.ref l] ∧ SqT K H l (ns.map V.int) ∧ ns.length ≤ 1000 ∧ ∀ (a : Addr) (c : Nat), c ≤ ns.length → H a = none → Q (.ref a) (upd H a (SetO w a (fun j => decide (j ∈ ns)) c))
theorem ints_of : ∀ {ns : List Int} {us : List Value}, Vals (ns.map V.int) us → IntsAre us ns
  | [], _, h => by cases h; exact .nil
  | n :: r, _, h => by
    cases h with
    | cons a b =>
      obtain ⟨k, rfl⟩ := a
      exact .cons n k (ints_of b)
theorem call_setTup (calm : X.calm = true) : CallR X (.type "set") (rSetTup X.K X.w) := by
  intro ps0 st0 σ0 H0 args us W0 Inv0 rel asked
  obtain ⟨l, ns, rfl, sq, most, wish⟩ := asked
  obtain ⟨u, rfl, ru⟩ := vals1 rel
  obtain rfl : u = .ref l := ru
  obtain ⟨its, rv, pl, _⟩ := Inv0.tuple sq
  refine call_set_tupI ns (Inv0.ok.hd calm) pl (by simpa using ints_of rv) (by unfold scanBound; omega) fun h' tk c R less kept => ?_
  have free : H0 st0.heap.objs.size = none := Inv0.hok.fresh (Nat.le_refl _)
  exact ⟨.ref st0.heap.objs.size, upd H0 st0.heap.objs.size (SetO X.w st0.heap.objs.size (fun j => decide (j ∈ ns)) c), Inv0.laid (a := st0.heap.objs.size) (t' := tk) kept (Nat.le_refl _) (setO_new R), rfl, wish _ c less free⟩
end


/-! ### min(xs, default=d), xs a list of numbers -/
section
variable {prog : Program} {w : World} {A : Around} {R : Result → Shared → Prop} {I : Addr} {fp wr : List Addr} {n : Nat} {P : Nat → Value → Prop} {St : Nat → Heap → Prop}
/-- the least one so far -/
def Least (val : Nat → Int) (j : Nat) : Option (Int × Tok) → Prop
  | none => j = 0
  | some p => (∃ i, i < j ∧ p.1 = val i) ∧ ∀ i, i < j → p.1 ≤ val i
def keptV : Option (Int × Tok) → Array Value
  | none => #[]
  | some p => #[.int p.1 p.2, .int p.1 p.2]
def lastV (d : Value) : Option (Int × Tok) → Value
  | none => d
  | some p => .int p.1 p.2
theorem least_loop (W : Walks prog w A.in1 I fp wr n P St) (S : Addr) (away : S ∉ fp) (val : Nat → Int) (num : ∀ i v, P i v → ∃ t, v = .int (val i) t) (d : Value) :
    ∀ (k j : Nat) (s : Shared) (old : Option (Int × Tok)) (c : Nat), n - j = k → j ≤ n → St j s.heap → Least val j old → s.heap.get? S = some { cls := .type "list", dict := none, data := .seq (keptV old) c, slots := #[] } →
    (∀ (fin : Option (Int × Tok)) (h' : Heap) (tk : Nat), Least val n fin → (∀ b o, b ∉ wr → b ≠ S → s.heap.get? b = some o → h'.get? b = some o) → R (.ok (.ret (lastV d fin))) { s with heap := h', toks := tk }) →
    codeAny (model prog w) A (.builtin "min.loop" ⟨[.ref I, .none, .ref S], [(Str.ofString "default", d)]⟩) R s := by
  have apart : S ∉ wr := fun z => away (W.sub _ z)
  have word : (toString "min" ++ toString ".loop" : String) = "min.loop" := by decide
  intro k
  induction k with
  | zero =>
    intro j s old c hk hj st least there wish
    obtain rfl : j = n := by omega
    refine codeAny_builtin PySem.F.entry_min_loop ?_
    rw [Around.under_plainId PySem.F.plain_min_loop _]
    show wpAny _ A.in1 (seqItems? (.ref S) >>= _) _ _ s
    refine wpAny_bind (wpAny_seqItems there rfl ?_)
    show wpAny _ A.in1 (tryCatch (pyNext (.ref I)) _ >>= _) _ _ s
    refine wpAny_bind (wpAny_tryCatch (W.done s _ _ st fun h1 tk1 kept1 => ?_))
    have there1 := kept1 S _ apart there
    cases old with
    | none =>
      show wpAny _ A.in1 (rule _ >>= _) _ _ _
      refine wpAny_bind (wpAny_rule (wpAny_pure ?_))
      exact wish none h1 tk1 least fun b o nb _ e => kept1 b o nb e
    | some p =>
      show wpAny _ A.in1 (updateSeq S (fun _ => #[]) >>= _) _ _ _
      refine wpAny_bind ?_
      refine wpAny_updateSeq (hz := by rw [sizeLine_eq]; exact (by decide : (2 : Nat) ≤ 16777216)) there1 rfl (wpAny_bind (wpAny_letGo (wpAny_pure ?_)))
      exact wish (some p) _ tk1 least fun b o nb nS e => (Heap.get?_update_other _ _ (Ne.symm nS)).trans (kept1 b o nb e)
  | succ k ih =>
    intro j s old c hk hj st least there wish
    have less : j < n := by omega
    refine codeAny_builtin PySem.F.entry_min_loop ?_
    rw [Around.under_plainId PySem.F.plain_min_loop _]
    show wpAny _ A.in1 (seqItems? (.ref S) >>= _) _ _ s
    refine wpAny_bind (wpAny_seqItems there rfl ?_)
    show wpAny _ A.in1 (tryCatch (pyNext (.ref I)) _ >>= _) _ _ s
    refine wpAny_bind (wpAny_tryCatch (W.item j s _ _ less st fun v h1 tk1 hv st1 kept1 => ?_))
    obtain ⟨t, rfl⟩ := num _ _ hv
    have there1 := kept1 S _ apart there
    cases old with
    | none =>
      obtain rfl : j = 0 := least
      show wpAny _ A.in1 (updateSeq S (fun _ => #[.int (val 0) t, .int (val 0) t]) >>= _) _ _ _
      refine wpAny_bind ?_
      refine wpAny_updateSeq there1 rfl ?_
      rw [word]
      refine wpAny_pure ⟨plainId_quiet PySem.F.plain_min_loop _, ih 1 _ (some (val 0, t)) _ (by omega) less (W.frame _ _ _ st1 fun b hb q e => ?_) ⟨⟨0, by omega, rfl⟩, fun i hi => ?_⟩ (Heap.get?_update_self _ there1 rfl) fun fin h2 tk2 l2 kept2 => ?_⟩
      · exact (Heap.get?_update_other _ _ (fun z : S = b => away (by rw [z]; exact hb))).trans e
      · obtain rfl : i = 0 := by omega
        exact Int.le_refl _
      · exact wish fin h2 tk2 l2 fun b o nb nS e => kept2 b o nb nS ((Heap.get?_update_other _ _ (Ne.symm nS)).trans (kept1 b o nb e))
    | some p =>
      obtain ⟨⟨i0, hi0, e0⟩, all⟩ := least
      show wpAny _ A.in1 (tryCatch (holding [.int (val j) t, .int (val j) t] (richCompare .Lt (.int (val j) t) (.int p.1 p.2) >>= _)) _ >>= _) _ _ _
      refine wpAny_bind (wpAny_tryCatch (wpAny_holding (wpAny_bind (richCompare_gives (op := .Lt) (typeIs_int _ _ t) (typeIs_int _ _ p.2) PySem.F.slot_int_lt PySem.F.entry_int_lt (PySem.F.args_int_lt_2 _ _) (gives_int_lt _ _ t p.2) (fun z => nomatch z) ?_))))
      refine wpAny_bind (wpAny_holding (wpAny_truthy_bool ?_))
      refine wpAny_bind (wpAny_letGo (wpAny_pure ?_))
      by_cases c2 : val j < p.1
      · rw [if_pos (by simpa using c2)]
        refine wpAny_bind ?_
        refine wpAny_updateSeq (hz := by rw [sizeLine_eq]; exact (by decide : (2 : Nat) ≤ 16777216)) there1 rfl (wpAny_bind (wpAny_letGo ?_))
        rw [word]
        refine wpAny_pure ⟨plainId_quiet PySem.F.plain_min_loop _, ih (j + 1) _ (some (val j, t)) _ (by omega) less (W.frame _ _ _ st1 fun b hb q e => ?_) ⟨⟨j, by omega, rfl⟩, fun i hi => ?_⟩ (Heap.get?_update_self _ there1 rfl) fun fin h2 tk2 l2 kept2 => ?_⟩
        · exact (Heap.get?_update_other _ _ (fun z : S = b => away (by rw [z]; exact hb))).trans e
        · rcases Nat.lt_or_ge i j with h | h
          · have := all i h
            show val j ≤ val i
            omega
          · obtain rfl : i = j := by omega
            exact Int.le_refl _
        · exact wish fin h2 tk2 l2 fun b o nb nS e => kept2 b o nb nS ((Heap.get?_update_other _ _ (Ne.symm nS)).trans (kept1 b o nb e))
      · rw [if_neg (by simpa using c2)]
        refine wpAny_bind (wpAny_letGo ?_)
        rw [word]
        refine wpAny_pure ⟨plainId_quiet PySem.F.plain_min_loop _, ih (j + 1) _ (some p) c (by omega) less st1 ⟨⟨i0, by omega, e0⟩, fun i hi => ?_⟩ there1 fun fin h2 tk2 l2 kept2 => ?_⟩
        · rcases Nat.lt_or_ge i j with h | h
          · exact all i h
          · obtain rfl : i = j := by omega
            show p.1 ≤ val i
            omega
        · exact wish fin h2 tk2 l2 fun b o nb nS e => kept2 b o nb nS (kept1 b o nb e)
end

section
variable {X : Cx}
theorem args_min_d (a d : Value) : argsOk "min" ⟨[a], [(Str.ofString "default", d)]⟩ := by unfold argsOk; kernel_rfl
theorem getD_int {its : Array Value} {ns : List Int} (h : IntsAre its.toList ns) {i : Nat} {v : Value} (e : its[i]? = some v) : ∃ t, v = .int (ns.getD i 0) t := by
  have gen : ∀ {us : List Value} {ms : List Int}, IntsAre us ms → ∀ (k : Nat) (u : Value), us[k]? = some u → ∃ t, u = .int (ms.getD k 0) t := by
    intro us ms r
    induction r with
    | nil => intro k u z; simp at z
    | cons n t _ ih =>
      intro k u z
      cases k with
      | zero =>
        have z2 : Value.int n t = u := by simpa using z
        exact ⟨t, by rw [← z2]; rfl⟩
      | succ k =>
        obtain ⟨t2, z3⟩ := ih k u (by simpa using z)
        exact ⟨t2, by rw [z3]; rfl⟩
  exact gen h i v (by rw [← e, Array.getElem?_toList])
/-- min(xs, default=d): the number, or what d is -/
theorem run_minD {pins : List (Addr × Obj)} {σ : L2.St} {H : Hp} {s : Shared} {l : Addr} {ns : List Int} {d : Value} {x : V} {Q : VK} (calm : X.calm = true) (I : L2.Inv X pins σ H s) (sq : SqL X.K H l (ns.map V.int)) (rx : RelV x d)
    (none_ : ns = [] → Q x H) (some_ : ∀ m, m ∈ ns → (∀ k ∈ ns, m ≤ k) → Q (.int m) H) : wpAny (model X.prog X.w) X.A (call (.builtin "min") [.ref l] [(Str.ofString "default", d)]) (EP X pins σ Q) X.xe s := by
  obtain ⟨its, rv, pl, _⟩ := I.list sq
  have numbers : IntsAre its.toArray.toList ns := by simpa using ints_of rv
  have long : its.toArray.size = ns.length := by rw [List.size_toArray, ← rv.length]; exact List.length_map _
  have word : (toString "min" ++ toString ".loop" : String) = "min.loop" := by decide
  have there := pl.isList
  have low : l < s.heap.objs.size := by obtain ⟨_, e, _⟩ := there; exact Heap.lt_size e
  refine PyProof.Rows.kmk_tree PySem.F.kind_min PySem.F.plain_min PySem.F.entry_min (args_min_d _ _) ?_
  show wpAny _ X.A.in1 (Builtin.Builtins.bindParams "min" ["key", "default"] 0 ⟨[], [(Str.ofString "default", d)]⟩ >>= _) _ _ s
  refine wpAny_bind (wpAny_of_eq (show Builtin.Builtins.bindParams "min" ["key", "default"] 0 ⟨[], [(Str.ofString "default", d)]⟩ = pure [none, some d] from rfl) ?_)
  refine wpAny_bind (wpAny_pure ?_)
  refine wpAny_bind (wpAny_pyIter_list there ?_)
  refine wpAny_bind (wpAny_newObj_type ?_)
  rw [word]
  refine wpAny_pure ⟨plainId_quiet PySem.F.plain_min_loop _, ?_⟩
  have iter : (s.heap.push { cls := .type "list_iterator", data := .fields #[.ref l, .int 0 0] }).objs.size = s.heap.objs.size + 1 := Heap.size_push ..
  refine least_loop (Walks.list (A := X.A.in1) (I.ok.hd calm) s.heap.objs.size l (Nat.ne_of_lt low) its.toArray) _ (fun z => ?_) (fun i => ns.getD i 0) (fun i v e => getD_int numbers e) d _ 0 _ none _ rfl (Nat.zero_le _) ⟨⟨_, Heap.get?_push_of_some _ (Heap.get?_push_size _ rfl), rfl, rfl⟩, (there.push _).push _⟩ rfl (Heap.get?_push_size _ rfl) fun fin h' tk least kept => ?_
  · have z2 : (s.heap.push { cls := .type "list_iterator", data := .fields #[.ref l, .int 0 0] }).objs.size ∈ [s.heap.objs.size, l] := z
    rw [iter] at z2
    rcases List.mem_cons.mp z2 with e | z2
    · exact absurd e (Nat.succ_ne_self _)
    · have e : (s.heap.objs.size + 1 : Nat) = l := List.mem_singleton.mp z2
      rw [← e] at low
      exact absurd low Nat.not_succ_lt_self
  · have old : ∀ b o, s.heap.get? b = some o → h'.get? b = some o := fun b o e => by
      have lb : (b : Nat) < s.heap.objs.size := Heap.lt_size e
      refine kept b o (fun z => ?_) (fun z => ?_) (Heap.get?_push_of_some _ (Heap.get?_push_of_some _ e))
      · have z2 : b = s.heap.objs.size := List.mem_singleton.mp z
        rw [z2] at lb
        exact Nat.lt_irrefl _ lb
      · have z2 : (b : Nat) = (s.heap.push { cls := .type "list_iterator", data := .fields #[.ref l, .int 0 0] }).objs.size := z
        rw [iter] at z2
        rw [z2] at lb
        exact Nat.not_succ_lt_self lb
    have I2 : L2.Inv X pins σ H { s with heap := h', toks := tk } := I.kept old
    cases fin with
    | none =>
      have empty : its.toArray.size = 0 := least
      have e : ns = [] := List.eq_nil_of_length_eq_zero (by rw [← long]; exact empty)
      exact ⟨x, H, I2, rx, none_ e⟩
    | some p =>
      obtain ⟨⟨i, hi, e⟩, all⟩ := least
      rw [long] at hi all
      have at_i : ns.getD i 0 = ns[i] := by rw [List.getD_eq_getElem?_getD, List.getElem?_eq_getElem hi]; rfl
      refine ⟨.int p.1, H, I2, ⟨p.2, rfl⟩, some_ _ (by rw [e]; show ns.getD i 0 ∈ ns; rw [at_i]; exact List.getElem_mem hi) fun k hk => ?_⟩
      obtain ⟨j, hj, ej⟩ := List.getElem_of_mem hk
      have this : p.1 ≤ ns.getD j 0 := all j hj
      rw [List.getD_eq_getElem?_getD, List.getElem?_eq_getElem hj] at this
      rw [← ej]
      exact this
end

section
variable {X : Cx}
def rMinD (K : PySem.W.Frag) : List V → List V → Hp → VK → Prop := fun vs ds H Q => ∃ (l : Addr) (ns : List Int) (x : V), vs = [.ref l] ∧ ds = [x] ∧ SqL K H l (ns.map V.int) ∧ (ns = [] → Q x H) ∧ ∀ m, m ∈ ns → (∀ k ∈ ns, m ≤ k) → Q (.int m) H
theorem call_minD (calm : X.calm = true) : CallRK X (.builtin "min") ["default"] (rMinD X.K) := by
  intro ps0 st0 σ0 H0 vs ds us ws W0 Inv0 rel1 rel2 asked
  obtain ⟨l, ns, x, rfl, rfl, sq, none_, some_⟩ := asked
  obtain ⟨u, rfl, ru⟩ := vals1 rel1
  obtain ⟨d, rfl, rd⟩ := vals1 rel2
  obtain rfl : u = .ref l := ru
  exact run_minD calm Inv0 sq rd none_ some_
end

section
open PySem.W PySem.Calls HandSHeadRun
/-! ### a top that begins with an import -/
/-- the opening's run, on the tree -/
def impF (st : SharedT → Thread → Option (SharedT × Thread)) : Nat → SharedT → Thread → Option SharedT
  | 0, _, _ => none
  | m + 1, s, t => match t.atExitBegin with
    | some [] => some s
    | some (_ :: _) => none
    | none => match st s t with
      | some (s', t') => frS s' fun s' => impF st m s' t'
      | none => none
theorem impF_ok {tb : String → Option Builtin} {p : Program} {w : World} : ∀ {m : Nat} {s s' : SharedT} {t : Thread}, impF (stepT (denote tb) p w) m s t = some s' → importEnds tb p w m s.abs t = some s'.abs
  | 0, _, _, _, h => by cases h
  | m + 1, s, s', t, h => by
    unfold impF at h
    unfold importEnds
    cases ht : t.atExitBegin with
    | some l =>
      rw [ht] at h
      cases l with
      | nil => cases h; rfl
      | cons _ _ => cases h
    | none =>
      rw [ht] at h
      have h2 : (match stepT (denote tb) p w s t with
        | some (s', t') => frS s' fun s' => impF (stepT (denote tb) p w) m s' t'
        | none => none) = some s' := h
      cases hs : stepT (denote tb) p w s t with
      | none =>
        rw [hs] at h2
        cases h2
      | some r =>
        obtain ⟨s2, t2⟩ := r
        rw [hs] at h2
        have h3 : (frS s2 fun s' => impF (stepT (denote tb) p w) m s' t2) = some s' := h2
        rw [frS_eq] at h3
        show (match step (denote tb) p w s.abs t with
          | .go s' t' => importEnds tb p w m s' t'
          | .halt _ _ => none) = some s'.abs
        rw [stepT_spec hs]
        exact impF_ok h3
/-- the state ahead of all -/
def startT (p : Program) : SharedT := ⟨.nil, 0, (start (opening p)).1.heap.life, (start (opening p)).1.gens, (start (opening p)).1.drawn, (start (opening p)).1.toks, (start (opening p)).1.os⟩
theorem startT_abs (p : Program) : (startT p).abs = (start (opening p)).1 := rfl
def boundT (s : SharedT) (a : Addr) (x : Str) : Option Value := match getT s a with
  | some o => match o.data with
    | .dict es _ => (es.find? (·.key.isStr x)).map (·.val)
    | _ => none
  | none => none
theorem boundT_eq (s : SharedT) (a : Addr) (x : Str) : boundT s a x = boundIn s.abs.heap a x := by
  unfold boundT boundIn
  rw [getT_eq]
  rfl
/-- one module's names fenced, on the tree -/
def fenceT (m : Str) (s : SharedT) : Option SharedT := match boundT s sysModules m, tameNamesOf? m with
  | some (.ref a), some row => match getT s a with
    | some o => match o.dict with
      | some D => match getT s D with
        | some od => match s.tree.get D with
          | some _ => (fenceDict? m row od).map fun od' => { s with tree := s.tree.set D fun _ => od' }
          | none => none
        | none => none
      | none => none
    | none => none
  | _, _ => none
theorem fenceT_ok {m : Str} {s s' : SharedT} (h : fenceT m s = some s') : fenceModule? m s.abs = some s'.abs := by
  unfold fenceT at h
  unfold fenceModule?
  rw [← boundT_eq]
  cases e1 : boundT s sysModules m with
  | none => rw [e1] at h; cases h
  | some v =>
    rw [e1] at h
    cases e2 : tameNamesOf? m with
    | none => rw [e2] at h; cases v <;> cases h
    | some row =>
      rw [e2] at h
      cases v with
      | ref a =>
        dsimp only at h ⊢
        rw [← getT_eq]
        cases e3 : getT s a with
        | none => rw [e3] at h; cases h
        | some o =>
          rw [e3] at h
          dsimp only at h ⊢
          cases e4 : o.dict with
          | none => rw [e4] at h; cases h
          | some D =>
            rw [e4] at h
            dsimp only at h ⊢
            rw [← getT_eq]
            cases e5 : getT s D with
            | none => rw [e5] at h; cases h
            | some od =>
              rw [e5] at h
              dsimp only at h ⊢
              cases e6 : s.tree.get D with
              | none => rw [e6] at h; cases h
              | some q =>
                rw [e6] at h
                dsimp only at h
                cases e7 : fenceDict? m row od with
                | none => rw [e7] at h; cases h
                | some od' =>
                  rw [e7] at h
                  have h2 : some ({ s with tree := s.tree.set D fun _ => od' } : SharedT) = some s' := h
                  rw [← Option.some.inj h2]
                  show some _ = some (SharedT.abs _)
                  congr 1
                  obtain ⟨T, n, life, gens, drawn, toks, os⟩ := s
                  show (⟨(absHeap T n life).update D _, gens, drawn, toks, os⟩ : Shared) = ⟨absHeap (T.set D _) n life, gens, drawn, toks, os⟩
                  rw [absHeap_set e6]
      | _ => cases h
/-- the state behind the opening and the state behind the top -/
def endI (stI st : SharedT → Thread → Option (SharedT × Thread)) (M : Nat) (p : Program) (m : Str) : Option (SharedT × SharedT) := match impF stI M (startT p) (start (opening p)).2 with
  | some s0 => match fenceT m s0 with
    | some s1 => frS s1 fun s1 => (goF st s1.n (s1.abs.heap.nsMap mainGlobals "__annotations__") M s1 (topStub p)).map fun s => (s1, s)
    | none => none
  | none => none
theorem endI_eq (M : Nat) (p : Program) (w : World) (m : Str) : endI (stepT (denote treeTable) (opening p) w) (stepT (denote treeTable) p w) M p m = endI (stepQ (denQ tabQ) (opening p) w) (stepQ (denQ tabQ) p w) M p m := by
  rw [stepQ_eq, denQ_eq, tabQ_eq]
theorem left_imp {p q : Program} {loose : List Str} {Xt : Shared → Bool} {α : Type} {Yf : Shared → α} {Ya : World → α} {N M : Nat} {m : Str}
    (hm : importedModules p.main.body = [m]) (hnp : p.main.body.any namesNumpy = false) (le : Nat.ble M N = true)
    (run : ∀ w : World, (endI (stepT (denote treeTable) (opening p) w) (stepT (denote treeTable) p w) M p m).map (fun r => (r.1.abs.heap.isNs mainGlobals && r.1.gens.size == 0, looksF p r.1.abs.heap r.2.abs, openSeen q loose (importedModules p.main.body) Xt true r.2.abs, Yf r.2.abs)) = some (true, true, openGood q loose, Ya w)) :
    LeftO p q loose Xt Yf Ya N true := fun w => by
  obtain ⟨⟨s1, s⟩, hs, hv⟩ := Option.map_eq_some_iff.mp (run w)
  obtain ⟨l0, l1, l2, l3⟩ : _ ∧ _ ∧ _ ∧ _ := by simpa only [Prod.mk.injEq] using hv
  unfold endI at hs
  cases e0 : impF (stepT (denote treeTable) (opening p) w) M (startT p) (start (opening p)).2 with
  | none => rw [e0] at hs; cases hs
  | some s0 =>
    rw [e0] at hs
    dsimp only at hs
    cases e1 : fenceT m s0 with
    | none => rw [e1] at hs; cases hs
    | some s1' =>
      rw [e1] at hs
      dsimp only at hs
      rw [frS_eq] at hs
      obtain ⟨s', g, z⟩ := Option.map_eq_some_iff.mp hs
      obtain ⟨rfl, rfl⟩ := Prod.mk.inj z
      have le' := Nat.le_of_ble_eq_true le
      have i1 := importEnds_mono (N - M) _ _ _ _ (impF_ok e0)
      rw [show M + (N - M) = N by omega, startT_abs] at i1
      have a : fencedOpening treeTable p w N = some s1'.abs := by
        unfold fencedOpening
        rw [i1]
        show fenceModules? p s0.abs = _
        unfold fenceModules?
        rw [hm, hnp]
        show ((fenceModule? m s0.abs).bind (fenceAll? [])).bind _ = _
        rw [fenceT_ok e1]
        rfl
      have r := topRun_mono (N - M) _ _ _ _ (goF_ok g)
      rw [show M + (N - M) = N by omega] at r
      have size : s1'.abs.heap.objs.size = s1'.n := absHeap_size ..
      have t : topFrom treeTable p w N s1'.abs = some s'.abs := by
        unfold topFrom
        have l0' : (s1'.abs.heap.isNs mainGlobals && s1'.abs.gens.size == 0) = true := l0
        rw [l0']
        show (topRun treeTable p w s1'.abs.heap.objs.size (s1'.abs.heap.nsMap mainGlobals "__annotations__") N s1'.abs (topStub p)).bind _ = _
        rw [size, r]
        show (match staticsOk (importedModules p.main.body) s1'.abs.heap s'.abs.heap && namesBound p s'.abs.heap && gensDone s'.abs && laidKept s1'.abs.heap s'.abs.heap with | true => some s'.abs | false => none) = _
        have l1' : (staticsOk (importedModules p.main.body) s1'.abs.heap s'.abs.heap && namesBound p s'.abs.heap && gensDone s'.abs && laidKept s1'.abs.heap s'.abs.heap) = true := l1
        rw [l1']
      unfold openEnds
      rw [a]
      show (topFrom treeTable p w N s1'.abs).map _ = _
      rw [t]
      exact congrArg some (Prod.ext l2 l3)
def RunEqI (r : OpenRow) (q : Program) (H : Hook) (ob : SharedT → H.α) (M : Nat) (loose : List PySem.Str) (m : Str) (w : World) : Prop :=
  (endI (stepQ (denQ tabQ) (opening r.prog) w) (stepQ (denQ tabQ) r.prog w) M r.prog m).map (fun s => (s.1.abs.heap.isNs mainGlobals && s.1.gens.size == 0, looksF r.prog s.1.abs.heap s.2.abs, seenQ q loose (importedModules r.prog.main.body) (fun s => xlAt q [] s && recOk r.toRowW.records s) s.2.abs, ob s.2)) = some (true, true, openGood q loose, H.val w)
theorem head_imp {r : OpenRow} {q : Program} {H : Hook} {ob : SharedT → H.α} {M : Nat} {loose : List PySem.Str} {d : DefRec} {kwd : List (PySem.Str × PySem.Expr)} {m : Str} (ho : ∀ s : SharedT, ob s = H.obs s.abs)
    (hm : importedModules r.prog.main.body = [m]) (hnp : r.prog.main.body.any namesNumpy = false) (run : ∀ w, RunEqI r q H ob M loose m w)
    (hdef : defOf q r.name = some (d, kwd)) (hp : r.prog.theDef r.name = some (d.params, d.body, d.scope)) (hk : kwWritten? d.params.kwonlyargs d.params.kw_defaults = some kwd)
    (hwr : (!r.writes || r.records.isEmpty) = true) (k1 : r.wellSaid = true) (ok : (chainsOk q && opensWell r.prog && (frees r.toRowW && r.within.isEmpty)) = true) (hb : r.prog.bare) (hw : r.toRowW.promised)
    (call : WalkO q loose (XL q []) H.says r.toRowW d kwd fun f vs => PySem.call f vs) : r.Holds := by
  have left : LeftO r.prog q loose (fun s => xlAt q [] s && recOk r.toRowW.records s) H.obs H.val M true :=
    left_imp (M := M) hm hnp (Nat.ble_eq_true_of_le (Nat.le_refl _)) fun w => by
      have z := run w
      have eo : ob = fun s => H.obs s.abs := funext ho
      unfold RunEqI at z
      rw [eo] at z
      simp only [endI_eq, seenQ_eq]
      exact z
  exact holds_open (r := r) (q := q) (loose := loose) (XP := XL q []) (YP := H.says) (d := d) (kwd := kwd) left H.of H.keeps (fun s z => xl_of s (Bool.and_eq_true_iff.mp z).1) XL.keeps hdef hp hk (fun s z => recFacts_of (Bool.and_eq_true_iff.mp z).2) hwr k1 ok hb hw call
end

/-! ### the table as it stands -/
def keyN (k : Key) : NestedKey := .tup [.tup (k.1.map .num), .num k.2]
def optV : Option Int → V
  | none => .non
  | some n => .int n
def valV (v : TV) : List V := [.int v.1, optV v.2]
theorem map_num_inj : ∀ {a b : List Int}, a.map NestedKey.num = b.map NestedKey.num → a = b
  | [], [], _ => rfl
  | [], _ :: _, h => by cases h
  | _ :: _, [], h => by cases h
  | x :: a, y :: b, h => by
    rw [List.map_cons, List.map_cons] at h
    injection h with h1 h2
    injection h1 with h1
    rw [h1, map_num_inj h2]
theorem keyN_inj {a b : Key} (h : keyN a = keyN b) : a = b := by
  unfold keyN at h
  injection h with h
  injection h with h1 h2
  injection h1 with h1
  injection h2 with h2 _
  injection h2 with h2
  exact Prod.ext (map_num_inj h1) h2
theorem keysV_ints {H : Hp} : ∀ {ns : List Int} {xs : List V}, KeysV H (ns.map .num) xs → xs = ns.map V.int
  | [], _, h => by cases h; rfl
  | n :: r, _, h => by
    cases h with
    | cons a b =>
      cases a
      rw [keysV_ints b]
      rfl
theorem keysV_of {H : Hp} : ∀ ns : List Int, KeysV H (ns.map .num) (ns.map V.int)
  | [] => .nil
  | n :: r => .cons (.int n) (keysV_of r)
theorem keyV_at {H : Hp} {a b : Addr} {k : Key} (ha : H a = some (.tup [.ref b, .int k.2])) (hb : H b = some (.tup (k.1.map V.int))) : KeyV H (keyN k) (.ref a) :=
  .tup ha (.cons (.tup hb (keysV_of _)) (.cons (.int _) .nil))
theorem keyV_inv {H : Hp} {a : Addr} {k : Key} (h : KeyV H (keyN k) (.ref a)) : ∃ b, H a = some (.tup [.ref b, .int k.2]) ∧ H b = some (.tup (k.1.map V.int)) := by
  cases h with
  | tup ha h =>
    cases h with
    | cons h1 h2 =>
      cases h2 with
      | cons h2 h3 =>
        cases h3
        cases h2
        cases h1 with
        | tup hb h1 => exact ⟨_, ha, by rw [← keysV_ints h1]; exact hb⟩
theorem depth_nums : ∀ ns : List Int, NestedKey.depthAll (ns.map .num) ≤ 1
  | [] => by decide
  | n :: r => by
    have ih := depth_nums r
    rw [List.map_cons, NestedKey.depthAll]
    have : NestedKey.depth (.num n) ≤ 1 := by simp [NestedKey.depth]
    omega
theorem depth_key (k : Key) : (keyN k).depth ≤ 8 := by
  have h := depth_nums k.1
  unfold keyN
  simp only [NestedKey.depth, NestedKey.depthAll]
  omega
def EntOk (H : Hp) (x : NEnt) (e : Key × TV) : Prop := x.1 = keyN e.1 ∧ KeyV H (keyN e.1) (.ref x.2.1) ∧ ∃ p, x.2.2 = .ref p ∧ H p = some (.tup (valV e.2))
def TabR (H : Hp) (xs : List NEnt) (es : List (Key × TV)) : Prop := Paired (EntOk H) xs es
theorem TabR.mono {H H' : Hp} {xs : List NEnt} {es : List (Key × TV)} (e : ∀ a ys, H a = some (.tup ys) → H' a = some (.tup ys)) (h : TabR H xs es) : TabR H' xs es :=
  Paired.mapP h fun _ _ q => ⟨q.1, q.2.1.mono e, let ⟨p, h1, h2⟩ := q.2.2; ⟨p, h1, e _ _ h2⟩⟩
theorem TabR.len {H : Hp} {xs : List NEnt} {es : List (Key × TV)} (h : TabR H xs es) : xs.length = es.length := Paired.length h
theorem TabR.snoc {H : Hp} {x : NEnt} {e : Key × TV} (r : EntOk H x e) : ∀ {xs : List NEnt} {es : List (Key × TV)}, TabR H xs es → TabR H (xs ++ [x]) (es ++ [e])
  | [], [], _ => .cons r .nil
  | [], _ :: _, h => by cases h
  | _ :: _, [], h => by cases h
  | _ :: _, _ :: _, h => by
    cases h with
    | cons a b => exact .cons a (TabR.snoc r b)
theorem TabR.keys {H : Hp} : ∀ {xs : List NEnt} {es : List (Key × TV)}, TabR H xs es → xs.map (·.1) = es.map fun e => keyN e.1
  | [], [], _ => rfl
  | [], _ :: _, h => by cases h
  | _ :: _, [], h => by cases h
  | _ :: _, _ :: _, h => by
    cases h with
    | cons a b => rw [List.map_cons, List.map_cons, TabR.keys b, a.1]
theorem TabR.mem {H : Hp} : ∀ {xs : List NEnt} {es : List (Key × TV)}, TabR H xs es → ∀ x ∈ xs, ∃ e ∈ es, EntOk H x e
  | [], _, _, x, m => by cases m
  | _ :: _, [], h, _, _ => by cases h
  | _ :: _, _ :: _, h, x, m => by
    cases h with
    | cons a b =>
      rcases List.mem_cons.mp m with e | m
      · subst e
        exact ⟨_, List.mem_cons_self .., a⟩
      · obtain ⟨e, he, q⟩ := TabR.mem b x m
        exact ⟨e, List.mem_cons_of_mem _ he, q⟩
theorem TabR.nok {H : Hp} {xs : List NEnt} {es : List (Key × TV)} (h : TabR H xs es) (nd : (es.map (·.1)).Nodup) : NOk H xs := by
  refine ⟨fun x hx => ?_, ?_⟩
  · obtain ⟨e, _, q1, q2, _⟩ := h.mem x hx
    rw [q1]
    exact ⟨q2, depth_key _⟩
  · rw [h.keys]
    have e : (es.map fun e => keyN e.1) = (es.map (·.1)).map keyN := by rw [List.map_map]; rfl
    rw [e, List.Nodup, List.pairwise_map]
    exact nd.imp fun n z => n (keyN_inj z)
theorem TabR.look {H : Hp} (k : Key) : ∀ {xs : List NEnt} {es : List (Key × TV)}, TabR H xs es → (look es k = none ∧ atN xs (keyN k) = none) ∨ ∃ v p, look es k = some v ∧ atN xs (keyN k) = some (.ref p) ∧ H p = some (.tup (valV v))
  | [], [], _ => .inl ⟨rfl, rfl⟩
  | [], _ :: _, h => by cases h
  | _ :: _, [], h => by cases h
  | x :: xs, e :: es, h => by
    cases h with
    | cons a b =>
      obtain ⟨a1, a2, p, a3, a4⟩ := a
      by_cases c : e.1 = k
      · refine .inr ⟨e.2, p, ?_, ?_, a4⟩
        · unfold RV.look
          rw [List.find?_cons_of_pos (by simpa using c)]
          rfl
        · unfold atN
          rw [if_pos (by rw [a1, c]), a3]
      · have e1 : RV.look (e :: es) k = RV.look es k := by
          unfold RV.look
          rw [List.find?_cons_of_neg (by simpa using c)]
        have e2 : atN (x :: xs) (keyN k) = atN xs (keyN k) := by
          show (if x.1 = keyN k then some x.2.2 else atN xs (keyN k)) = _
          rw [if_neg (fun z => c (keyN_inj (a1.symm.trans z)))]
        rw [e1, e2]
        exact TabR.look k b
/-- the table at t -/
def TabAt (P : Program) (w : World) (H : Hp) (t : Addr) (es : List (Key × TV)) : Prop := ∃ xs, H t = some (DN P w t xs) ∧ TabR H xs es ∧ (es.map (·.1)).Nodup
theorem TabAt.ex {P : Program} {w : World} {H H' : Hp} {t : Addr} {es : List (Key × TV)} (e : Ex H H') (h : TabAt P w H t es) : TabAt P w H' t es := by
  obtain ⟨xs, h1, h2, h3⟩ := h
  exact ⟨xs, e _ _ h1, h2.mono fun a ys q => e _ _ q, h3⟩
theorem inV_ints (n : Int) : ∀ ns : List Int, inV (.int n) (ns.map V.int) = decide (n ∈ ns)
  | [] => by simp [inV]
  | m :: r => by
    have ih := inV_ints n r
    show (eqV (.int m) (.int n) || inV (.int n) (r.map V.int)) = _
    rw [ih]
    have e : eqV (.int m) (.int n) = decide (m = n) := rfl
    rw [e]
    by_cases c : m = n
    · subst c; simp
    · simp [c, Ne.symm c]
/-- the stops that are not begun -/
def restOf (many : Nat) (ns : List Int) : List Int := ((List.range many).map fun i : Nat => (i : Int)).filter fun n => !decide (n ∈ ns)
theorem flat_ints : ∀ ns : List Int, (ns.map V.int).all flatV = true
  | [] => rfl
  | _ :: r => flat_ints r
theorem none_of_ex {H H' : Hp} {p : Addr} (e : Ex H H') (h : H' p = none) : H p = none := by
  cases z : H p with
  | none => rfl
  | some o => rw [e p o z] at h; cases h
theorem flat_prefix {cs : List (List Int)} {j k : Nat} {d : List Int} {l : Int} (hj : cs[j]? = some d) (hk : d[k]? = some l) : ∃ post, cs.flatMap keysD = ((cs.take j).flatMap keysD ++ (d.take k).map (fun x => (d, x)) ++ [(d, l)]) ++ post := by
  obtain ⟨h1, h2⟩ := List.getElem?_eq_some_iff.mp hj
  obtain ⟨g1, g2⟩ := List.getElem?_eq_some_iff.mp hk
  have e1 : cs = cs.take j ++ d :: cs.drop (j + 1) := by
    rw [← h2, ← List.drop_eq_getElem_cons h1, List.take_append_drop]
  have e2 : d = d.take k ++ l :: d.drop (k + 1) := by
    rw [← g2, ← List.drop_eq_getElem_cons g1, List.take_append_drop]
  refine ⟨(d.drop (k + 1)).map (fun x => (d, x)) ++ (cs.drop (j + 1)).flatMap keysD, ?_⟩
  have e3 : keysD d = (d.take k).map (fun x => (d, x)) ++ (d, l) :: (d.drop (k + 1)).map (fun x => (d, x)) := by
    have := congrArg (List.map fun x => (d, x)) e2
    rw [List.map_append, List.map_cons] at this
    exact this
  calc cs.flatMap keysD = (cs.take j ++ d :: cs.drop (j + 1)).flatMap keysD := by rw [← e1]
    _ = _ := by
      rw [List.flatMap_append, List.flatMap_cons, e3]
      simp [List.append_assoc]
section
variable (go : Int → Int → Int → Option Int) (pl : Int → Int) (p0 t0 : Int)
theorem ents_keys (ks : List Key) : (entsOf go pl p0 t0 ks).map (·.1) = ks.filter fun k => (cell go pl p0 t0 k.1 k.2).isSome := by
  induction ks with
  | nil => rfl
  | cons k r ih =>
    unfold entsOf at ih ⊢
    rw [List.filterMap_cons]
    unfold entOf at ih ⊢
    cases e : cell go pl p0 t0 k.1 k.2 with
    | none => simp only [Option.map_none]; rw [ih, List.filter_cons_of_neg (by simp [e])]
    | some v => simp only [Option.map_some]; rw [List.map_cons, ih, List.filter_cons_of_pos (by simp [e])]
theorem ents_nodup {ks : List Key} (nd : ks.Nodup) : ((entsOf go pl p0 t0 ks).map (·.1)).Nodup := by
  rw [ents_keys]
  exact nd.filter _
theorem ents_snoc (ks : List Key) (k : Key) : entsOf go pl p0 t0 (ks ++ [k]) = entsOf go pl p0 t0 ks ++ (match cell go pl p0 t0 k.1 k.2 with | none => [] | some v => [(k, v)]) := by
  unfold entsOf
  rw [List.filterMap_append]
  congr 1
  unfold entOf
  cases e : cell go pl p0 t0 k.1 k.2 <;> simp [e]
theorem ways_congr {f g : Int → Option TV} {others : List Int} (h : ∀ n ∈ others, f n = g n) : waysOf pl f others = waysOf pl g others := by
  unfold waysOf
  induction others with
  | nil => rfl
  | cons n r ih =>
    rw [List.filterMap_cons, List.filterMap_cons, h n (List.mem_cons_self ..), ih fun m hm => h m (List.mem_cons_of_mem _ hm)]
theorem others_sub {rest done : List Int} {last : Int} (h : done.Sublist rest) : (othersOf done last).Sublist rest := (List.filter_sublist).trans h
/-- what the loop's step has of its own -/
theorem cell_step {rest done : List Int} {last : Int} {i : Nat} {ks : List Key} (ndr : rest.Nodup) (sub : done.Sublist rest) (len : done.length = i + 1) (m : last ∈ done) (has : ∀ k ∈ keysUpTo rest i, k ∈ ks) :
    early go (if othersOf done last = [] then [(none, p0, t0)] else waysOf pl (fun n => look (entsOf go pl p0 t0 ks) (othersOf done last, n)) (othersOf done last)) last = cell go pl p0 t0 done last := by
  have nd := sub.nodup ndr
  rw [cell_eq go pl p0 t0 nd m]
  congr 1
  by_cases c : othersOf done last = []
  · rw [if_pos c, if_pos c]
  · rw [if_neg c, if_neg c]
    refine ways_congr pl fun n hn => ?_
    rw [look_ents, if_pos]
    refine has _ (mem_keysUpTo.mpr ⟨others_sub sub, ?_, hn⟩)
    have := others_len nd m
    show (othersOf done last).length ≤ i
    omega
end
theorem rest_nodup (many : Nat) (ns : List Int) : (restOf many ns).Nodup := by
  unfold restOf
  refine List.Pairwise.filter _ ?_
  rw [List.pairwise_map]
  exact List.nodup_range.imp fun h z => h (by omega)
theorem rest_mem {many : Nat} {ns : List Int} {n : Int} : n ∈ restOf many ns ↔ (0 ≤ n ∧ n < many) ∧ n ∉ ns := by
  unfold restOf
  simp only [List.mem_filter, List.mem_map, List.mem_range, Bool.not_eq_true', decide_eq_false_iff_not]
  constructor
  · rintro ⟨⟨i, hi, rfl⟩, h⟩
    exact ⟨⟨by omega, by omega⟩, h⟩
  · rintro ⟨⟨h1, h2⟩, h⟩
    exact ⟨⟨n.toNat, by omega, by omega⟩, h⟩
theorem rest_len (many : Nat) (ns : List Int) : (restOf many ns).length ≤ many := by
  unfold restOf
  refine Nat.le_trans (List.length_filter_le _ _) ?_
  rw [List.length_map, List.length_range]
  exact Nat.le_refl _
theorem tup_at_dn {P : Program} {w : World} {H : Hp} {t : Addr} {xs : List NEnt} {o : HO} (ht : H t = some (DN P w t xs)) : ∀ a zs, H a = some (.tup zs) → upd H t o a = some (.tup zs) := fun a zs q => by
  rw [upd_ne (ne_of q ht (by intro z; cases z))]
  exact q
theorem combos_len {α : Type} : ∀ (r : Nat) (xs : List α), (combos r xs).length ≤ 2 ^ xs.length
  | 0, xs => by
    rw [combos.eq_def]
    exact Nat.one_le_two_pow
  | _ + 1, [] => by simp [combos]
  | r + 1, x :: xs => by
    have h1 := combos_len r xs
    have h2 := combos_len (r + 1) xs
    simp only [combos, List.length_append, List.length_map, List.length_cons, Nat.pow_succ]
    omega
theorem keysR_len (rest : List Int) (r : Nat) : (keysR rest r).length ≤ 2 ^ rest.length * r := by
  unfold keysR
  have gen : ∀ cs : List (List Int), (∀ d ∈ cs, d.length = r) → (cs.flatMap keysD).length ≤ cs.length * r := by
    intro cs
    induction cs with
    | nil => intro _; simp
    | cons d t ih =>
      intro h
      rw [List.flatMap_cons, List.length_append, List.length_cons, Nat.succ_mul]
      have e : (keysD d).length = r := by unfold keysD; rw [List.length_map]; exact h d (List.mem_cons_self ..)
      have := ih fun x hx => h x (List.mem_cons_of_mem _ hx)
      omega
  exact Nat.le_trans (gen _ fun d hd => (mem_combos.mp hd).2) (Nat.mul_le_mul_right _ (combos_len r rest))
theorem keysUpTo_len {rest : List Int} (h7 : rest.length ≤ 7) : ∀ n, n ≤ 7 → (keysUpTo rest n).length ≤ n * 896
  | 0, _ => by simp [keysUpTo]
  | n + 1, hn => by
    have ih := keysUpTo_len h7 n (by omega)
    have h1 := keysR_len rest (n + 1)
    have h2 : 2 ^ rest.length ≤ 128 := Nat.pow_le_pow_right (by decide) h7
    have h3 : 2 ^ rest.length * (n + 1) ≤ 128 * 7 := Nat.mul_le_mul h2 hn
    rw [keysUpTo, List.length_append, Nat.succ_mul]
    omega
/-! ### a locked dict's heap -/
def Lk (t : Addr) (od : Obj) (u : HO) (G : Hp) : Hp := upd G t (.frz od u)
theorem lk_un {t : Addr} {od : Obj} {u : HO} {G : Hp} (h : G t = some u) : upd (Lk t od u G) t u = G := by
  funext b
  by_cases c : b = t
  · subst c; rw [upd_same, h]
  · rw [upd_ne c]; exact upd_ne c
theorem lk_ex {t : Addr} {od : Obj} {u : HO} {G H' : Hp} (e : Ex (Lk t od u G) H') (h : G t = some u) : ∃ G', H' = Lk t od u G' ∧ Ex G G' ∧ G' t = some u := by
  refine ⟨upd H' t u, ?_, fun b o hb => ?_, upd_same⟩
  · funext b
    by_cases c : b = t
    · subst c
      show H' b = upd (upd H' b u) b (.frz od u) b
      rw [upd_same]
      exact e b _ upd_same
    · show H' b = upd (upd H' t u) t (.frz od u) b
      rw [upd_ne c, upd_ne c]
  · by_cases c : b = t
    · subst c
      rw [upd_same, ← hb, h]
    · rw [upd_ne c]
      exact e b o (by show upd G t _ b = _; rw [upd_ne c]; exact hb)
theorem lk_new {t p : Addr} {od : Obj} {u o : HO} {G : Hp} (h : Lk t od u G p = none) : ∃ n : p ≠ t, upd (Lk t od u G) p o = Lk t od u (upd G p o) ∧ G p = none := by
  have n : p ≠ t := fun c => by
    subst c
    have z : Lk p od u G p = some (.frz od u) := upd_same
    rw [h] at z
    cases z
  refine ⟨n, ?_, ?_⟩
  · funext b
    by_cases c : b = p
    · subst c
      show upd (upd G t _) b o b = upd (upd G b o) t _ b
      rw [upd_same, upd_ne n, upd_same]
    · show upd (upd G t _) p o b = upd (upd G p o) t _ b
      by_cases c2 : b = t
      · subst c2; rw [upd_ne c, upd_same, upd_same]
      · rw [upd_ne c, upd_ne c2, upd_ne c2, upd_ne c]
  · have z : upd G t (.frz od u) p = none := h
    rw [upd_ne n] at z
    exact z
theorem SqL.at_dn {P : Program} {w : World} {K : PySem.W.Frag} {H : Hp} {a t : Addr} {xs : List NEnt} {o : HO} {ys : List V} (ht : H t = some (DN P w t xs)) (h : SqL K H a ys) : SqL K (upd H t o) a ys := by
  rcases h with (h | ⟨ob, h⟩) | h
  · exact .inl (.inl (by rw [upd_ne (ne_of h ht (by intro z; cases z))]; exact h))
  · exact .inl (.inr ⟨ob, by rw [upd_ne (ne_of h ht (by intro z; cases z))]; exact h⟩)
  · exact .inr h
theorem SqT.at_dn {P : Program} {w : World} {K : PySem.W.Frag} {H : Hp} {a t : Addr} {xs : List NEnt} {o : HO} {ys : List V} (ht : H t = some (DN P w t xs)) (h : SqT K H a ys) : SqT K (upd H t o) a ys := by
  rcases h with (h | ⟨ob, h⟩) | h
  · exact .inl (.inl (by rw [upd_ne (ne_of h ht (by intro z; cases z))]; exact h))
  · exact .inl (.inr ⟨ob, by rw [upd_ne (ne_of h ht (by intro z; cases z))]; exact h⟩)
  · exact .inr h
theorem TabR.get {H : Hp} : ∀ {xs : List NEnt} {es : List (Key × TV)} {i : Nat} {x : NEnt}, TabR H xs es → xs[i]? = some x → ∃ e, es[i]? = some e ∧ EntOk H x e
  | [], _, i, _, _, e => by simp at e
  | _ :: _, [], _, _, h, _ => by cases h
  | a :: as, s :: ss, 0, x, h, e => by
    cases h with
    | cons r t =>
      simp at e
      subst e
      exact ⟨s, rfl, r⟩
  | a :: as, s :: ss, i + 1, x, h, e => by
    cases h with
    | cons r t =>
      obtain ⟨z, h1, h2⟩ := TabR.get (i := i) (x := x) t (by simpa using e)
      exact ⟨z, by simpa using h1, h2⟩
theorem look_mem {es : List (Key × TV)} (nd : (es.map (·.1)).Nodup) {e : Key × TV} (m : e ∈ es) : look es e.1 = some e.2 := by
  induction es with
  | nil => cases m
  | cons a r ih =>
    rw [List.map_cons, List.nodup_cons] at nd
    unfold look at ih ⊢
    rcases List.mem_cons.mp m with c | m
    · subst c
      rw [List.find?_cons_of_pos (by simp)]
      rfl
    · have n : a.1 ≠ e.1 := fun z => nd.1 (z ▸ List.mem_map_of_mem m)
      rw [List.find?_cons_of_neg (by simpa using n)]
      exact ih nd.2 m
section
variable {go : Int → Int → Int → Option Int} {pl : Int → Int} {p0 t0 : Int}
theorem ways_rise {f : Int → Option TV} {others : List Int} (h : others.Pairwise (· < ·)) : (waysOf pl f others).Pairwise fun x y => ∀ a c, x.1 = some a → y.1 = some c → a < c := by
  unfold waysOf
  refine List.Pairwise.filterMap (R := (· < ·)) _ ?_ h
  intro a a' lt b hb b' hb' x y hx hy
  cases e1 : f a with
  | none => rw [e1] at hb; cases hb
  | some u =>
    cases e2 : f a' with
    | none => rw [e2] at hb'; cases hb'
    | some u' =>
      rw [e1] at hb
      rw [e2] at hb'
      have h1 : (some a, pl a, u.1) = b := Option.some.inj hb
      have h2 : (some a', pl a', u'.1) = b' := Option.some.inj hb'
      subst h1 h2
      have h3 : a = x := Option.some.inj hx
      have h4 : a' = y := Option.some.inj hy
      omega
theorem mem_ways {f : Int → Option TV} {others : List Int} {w : Way} : w ∈ waysOf pl f others ↔ ∃ n u, n ∈ others ∧ f n = some u ∧ w = (some n, pl n, u.1) := by
  unfold waysOf
  rw [List.mem_filterMap]
  constructor
  · rintro ⟨n, hn, h⟩
    cases e : f n with
    | none => rw [e] at h; cases h
    | some u => rw [e] at h; exact ⟨n, u, hn, e, (Option.some.inj h).symm⟩
  · rintro ⟨n, u, hn, e, rfl⟩
    exact ⟨n, hn, by rw [e]; rfl⟩
theorem first_ways {f : Int → Option TV} {others : List Int} {last : Int} {v : TV} (h : others.Pairwise (· < ·)) (fl : FirstLeast go (waysOf pl f others) last v) :
    ∃ b u, v.2 = some b ∧ b ∈ others ∧ f b = some u ∧ go (pl b) u.1 last = some v.1 ∧ ∀ n ∈ others, n < b → ∀ u', f n = some u' → go (pl n) u'.1 last ≠ some v.1 := by
  obtain ⟨pre, w, post, e1, e2, e3, e4, e5⟩ := fl
  have wm : w ∈ waysOf pl f others := by rw [e1]; simp
  obtain ⟨b, u, hb, fb, rfl⟩ := mem_ways.mp wm
  refine ⟨b, u, e3.symm, hb, fb, e2, fun n hn lt u' fn g => ?_⟩
  have nm : ((some n, pl n, u'.1) : Way) ∈ waysOf pl f others := mem_ways.mpr ⟨n, u', hn, fn, rfl⟩
  have rise := ways_rise (pl := pl) (f := f) h
  rw [e1] at nm rise
  rcases List.mem_append.mp nm with m | m
  · have := e4 _ m _ g
    omega
  rcases List.mem_cons.mp m with m | m
  · have : n = b := Option.some.inj (Prod.mk.inj m).1
    omega
  · obtain ⟨_, r2, _⟩ := List.pairwise_append.mp rise
    have := (List.pairwise_cons.mp r2).1 _ m b n rfl rfl
    omega
theorem mem_ents {ks : List Key} {en : Key × TV} : en ∈ entsOf go pl p0 t0 ks ↔ en.1 ∈ ks ∧ cell go pl p0 t0 en.1.1 en.1.2 = some en.2 := by
  unfold entsOf
  rw [List.mem_filterMap]
  unfold entOf
  constructor
  · rintro ⟨k, hk, h⟩
    cases e : cell go pl p0 t0 k.1 k.2 with
    | none => rw [e] at h; cases h
    | some v =>
      rw [e] at h
      have h2 : (k, v) = en := Option.some.inj h
      subst h2
      exact ⟨hk, e⟩
  · rintro ⟨hk, e⟩
    exact ⟨en.1, hk, by rw [e]; rfl⟩
theorem look_all {ls : List Int} {d : List Int} {l : Int} (sub : d.Sublist ls) (m : l ∈ d) : look (entsOf go pl p0 t0 (keysAll ls)) (d, l) = cell go pl p0 t0 d l := by
  rw [look_ents, if_pos (mem_keysAll.mpr ⟨sub, m⟩)]
/-- what an entry of the table is: alone behind the begun order -/
theorem ent_one {done : List Int} {last : Int} {v : TV} (nd : done.Nodup) (m : last ∈ done) (c : cell go pl p0 t0 done last = some v) (o : othersOf done last = []) : v.2 = none ∧ go p0 t0 last = some v.1 := by
  rw [cell_eq go pl p0 t0 nd m, if_pos o] at c
  obtain ⟨pre, w, post, e1, e2, e3, _, _⟩ := early_some go c
  cases pre with
  | nil =>
    have e := (List.cons.inj e1).1
    subst e
    exact ⟨e3.symm, e2⟩
  | cons x r =>
    have e := (List.cons.inj e1).2
    cases r <;> cases e
theorem ent_more {done : List Int} {last : Int} {v : TV} (ri : done.Pairwise (· < ·)) (m : last ∈ done) (c : cell go pl p0 t0 done last = some v) (o : othersOf done last ≠ []) :
    ∃ b u, v.2 = some b ∧ b ∈ othersOf done last ∧ cell go pl p0 t0 (othersOf done last) b = some u ∧ go (pl b) u.1 last = some v.1 ∧ ∀ n ∈ othersOf done last, n < b → ∀ u', cell go pl p0 t0 (othersOf done last) n = some u' → go (pl n) u'.1 last ≠ some v.1 := by
  have nd : done.Nodup := ri.imp fun h => by omega
  rw [cell_eq go pl p0 t0 nd m, if_neg o] at c
  exact first_ways (ri.filter _) (early_some go c)
end
/-- the table at t, locked or not -/
def TabRd (P : Program) (w : World) (H : Hp) (t : Addr) (es : List (Key × TV)) : Prop := ∃ xs, Rd H t (DN P w t xs) ∧ TabR H xs es ∧ (es.map (·.1)).Nodup
theorem TabRd.ex {P : Program} {w : World} {H H' : Hp} {t : Addr} {es : List (Key × TV)} (e : Ex H H') (h : TabRd P w H t es) : TabRd P w H' t es := by
  obtain ⟨xs, h1, h2, h3⟩ := h
  refine ⟨xs, ?_, h2.mono fun a ys q => e _ _ q, h3⟩
  rcases h1 with h1 | ⟨ob, h1⟩
  · exact .inl (e _ _ h1)
  · exact .inr ⟨ob, e _ _ h1⟩
theorem TabAt.rd {P : Program} {w : World} {H : Hp} {t : Addr} {es : List (Key × TV)} (h : TabAt P w H t es) : TabRd P w H t es := let ⟨xs, h1, h2, h3⟩ := h; ⟨xs, .inl h1, h2, h3⟩
theorem rest_rise (many : Nat) (ns : List Int) : (restOf many ns).Pairwise (· < ·) := by
  unfold restOf
  refine List.Pairwise.filter _ ?_
  rw [List.pairwise_map]
  exact List.pairwise_lt_range.imp fun h => by omega
def base7 : List Int := (List.range 7).map fun i : Nat => (i : Int)
theorem rest_base {many : Nat} {ns : List Int} (h : many ≤ 7) : (restOf many ns).Sublist base7 := by
  unfold restOf base7
  exact List.filter_sublist.trans ((List.range_sublist.mpr h).map _)
theorem cell_single (go : Int → Int → Int → Option Int) (pl : Int → Int) (p0 t0 n : Int) : cell go pl p0 t0 [n] n = (go p0 t0 n).map fun x => (x, none) := by
  have o : othersOf [n] n = [] := by simp [othersOf]
  rw [cell_eq go pl p0 t0 (by simp) (by simp), if_pos o]
  unfold early
  rw [List.foldl_cons, List.foldl_nil]
  unfold stepE
  cases go p0 t0 n <;> rfl
def optD : Option Int → PyData
  | none => .none
  | some n => .int n
def tvD (v : TV) : PyData := .tuple [.int v.1, optD v.2]
theorem opt_dp {K : PySem.W.Frag} {H : Hp} : ∀ o : Option Int, Dp K H (optV o) (optD o)
  | none => .non
  | some n => .int n
theorem tv_dp {K : PySem.W.Frag} {H : Hp} {p : Addr} {v : TV} (h : H p = some (.tup (valV v))) : Dp K H (.ref p) (tvD v) := .tup (SqT.of h) (.cons (.int _) (.cons (opt_dp _) .nil))
theorem shaped_tv (v : TV) : SeqAt.shaped (tvD v) = true := by
  obtain ⟨a, _ | b⟩ := v <;> simp [SeqAt.shaped, tvD, optD, PyData.canLay0, PyData.canLayAll0, PyData.depth, PyData.depthAll]
theorem tab_same {K : PySem.W.Frag} {H : Hp} {xa xb : List NEnt} {es : List (Key × TV)} (ha : TabR H xa es) (hb : TabR H xb es) (nd : (es.map (·.1)).Nodup) : ∀ e ∈ xa, ∃ v d, atN xb e.1 = some v ∧ Dp K H e.2.2 d ∧ Dp K H v d ∧ SeqAt.shaped d = true := by
  intro e he
  obtain ⟨en, hen, q1, _, p, q3, q4⟩ := ha.mem e he
  rcases hb.look en.1 with ⟨z1, _⟩ | ⟨v, p2, z1, z2, z3⟩
  · rw [look_mem nd hen] at z1
    cases z1
  · rw [look_mem nd hen] at z1
    obtain rfl := Option.some.inj z1
    exact ⟨.ref p2, tvD en.2, by rw [q1]; exact z2, by rw [q3]; exact tv_dp q4, tv_dp z3, shaped_tv _⟩
theorem tab_ok {ring : Bool} {len p0 t0 : Int} {go : Int → Int → Int → Option Int} {pl : Int → Int} {ls : List Int} (ri : ls.Pairwise (· < ·)) (h7 : ls.length ≤ 7) : ∀ e ∈ entsOf go pl p0 t0 (keysAll ls), (∀ n ∈ e.1.1, n ∈ ls) ∧ e.1.1.Pairwise (· < ·) ∧ e.1.2 ∈ e.1.1 ∧ e.1.1.length ≤ 7 := by
  intro e he
  obtain ⟨km, _⟩ := mem_ents.mp he
  obtain ⟨sub, lm⟩ := mem_keysAll.mp km
  exact ⟨fun n hn => sub.subset hn, ri.sublist sub, lm, Nat.le_trans sub.length_le h7⟩
theorem rest_step (i : Nat) (ns : List Int) : restOf (i + 1) ns = restOf i ns ++ (if decide ((i : Int) ∈ ns) = true then [] else [(i : Int)]) := by
  unfold restOf
  rw [List.range_succ, List.map_append, List.filter_append]
  congr 1
  by_cases c : (i : Int) ∈ ns <;> simp [c]

/-! ### sorted(t), t a tuple of numbers -/
section
variable {P : Program} {w : World} {A : Around} {E : Value → Shared → Prop} {s : Shared}
theorem sorted_tup {a : Addr} {its : Array Value} {ns : List Int} {Q : Value → Shared → Prop} (tup : s.heap.IsTuple a its) (hI : IntsAre its.toList ns) (h64 : its.size < 64)
    (hQ : ∀ (h1 h2 : Heap) p (out : Array Value) (c : Nat) (ns' : List Int), (∀ b o, s.heap.get? b = some o → h1.get? b = some o) → h1.objs.size ≤ p → (∀ b o, h1.get? b = some o → h2.get? b = some o) →
      h2.get? p = some (seqObj "list" out c) → IntsAre out.toList ns' → ns'.Perm ns → ns'.Pairwise (· ≤ ·) → Q (.ref p) { s with heap := h2 }) :
    wpAny (model P w) A (call (.builtin "sorted") [.ref a]) Q E s := by
  obtain ⟨o, ho, hc, n, hd⟩ := tup
  refine Calls.call_function_entry kind_sorted plain_sorted entry_sorted (args_sorted1 _) ?_
  unfold Builtin.«sorted»
  refine wpAny_bind (m := checkCount "sorted" 1 1 _) (wpAny_pure ?_)
  refine wpAny_bind (wpAny_collect_seq (hsz := by rw [sizeLine_eq]; omega) a (.inr rfl) ho hc hd fun h1 k1 => ?_)
  refine wpAny_bind (wpAny_newList ?_ (by rw [Array.length_toList, sizeLine_eq]; omega))
  have hoL : (h1.push (seqObj "list" its.toList.toArray 0)).get? h1.objs.size = some (seqObj "list" its.toList.toArray 0) := Heap.get?_push_size _ rfl
  refine wpAny_bind (wpAny_holding (wpAny_call_entry slot_list_sort ⟨_, hoL, rfl⟩ entry_list_sort (list_sort_tree hoL hI (by rw [Array.length_toList]; exact h64) fun out ns' a1 a2 a3 => ⟨_, rfl, ?_⟩) (args_list_sort _)))
  obtain ⟨c, hc⟩ := sortedHeap_at (vs := its.toList) (out := out) hoL
  refine wpAny_pure ⟨_, rfl, hQ h1 _ h1.objs.size out c ns' k1 (Nat.le_refl _) (fun b u q => ?_) hc a1 a2 a3⟩
  have hlt := Heap.lt_size q
  show (sortedHeap (h1.push (seqObj "list" its.toList.toArray 0)) h1.objs.size its.toList out).get? b = some u
  rw [sortedHeap_old (Nat.ne_of_lt hlt) (by rw [size_push']; exact Nat.lt_succ_of_lt hlt)]
  exact Heap.get?_push_of_some _ q
end
section
variable {X : Cx}
def rSortedT (K : PySem.W.Frag) : List V → Hp → VK → Prop := fun vs H Q => ∃ (a : Addr) (ns : List Int), vs = [V.ref a] ∧ SqT K H a (ns.map V.int) ∧ ns.length < 64 ∧
  ∀ (ns' : List Int) (p : Addr), ns'.Perm ns → ns'.Pairwise (· ≤ ·) → H p = none → Q (.ref p) (upd H p (.lst (ns'.map V.int)))
theorem cr_sortedT : CallR X (.builtin "sorted") (rSortedT X.K) := by
  intro ps0 st0 σ0 H0 vs us W0 Inv0 rel asked
  obtain ⟨a, ns, rfl, sq, less, wish⟩ := asked
  obtain ⟨u, rfl, ru⟩ := vals1 rel
  obtain rfl : u = .ref a := ru
  obtain ⟨its, rv, pl, _⟩ := Inv0.tuple sq
  have long : its.length = ns.length := by rw [← rv.length]; exact List.length_map _
  refine sorted_tup pl (by simpa using ints_of rv) (by simpa using by omega) fun h1 h2 p out c ns' k1 hp k2 isL nums pm le => ?_
  have I1 : L2.Inv X ps0 σ0 H0 { st0 with heap := h1 } := Inv0.kept k1
  have free : H0 p = none := I1.hok.fresh hp
  have fits : (ns'.map V.int).length ≤ sizeLine := by rw [List.length_map, pm.length_eq, sizeLine_eq]; omega
  exact ⟨.ref p, upd H0 p (.lst (ns'.map V.int)), I1.laid (a := p) (t' := st0.toks) k2 hp ⟨fits, out.toList, c, vals_of_ints nums, by simpa using isL⟩, rfl, wish ns' p pm le free⟩
end

/-- where and when the van is behind an order; none: missed -/
def behindOf (ring : Bool) (len : Int) (sts : List Stp) : Int → Int → List Int → Option (Int × Int)
  | pl, t, [] => some (pl, t)
  | pl, t, n :: r => (goOn ring len pl t (stAt sts n)).bind fun x => behindOf ring len sts (stAt sts n).1 x.2.2 r
theorem behind_none {ring : Bool} {len : Int} {sts : List Stp} : ∀ {ns : List Int} {pl t : Int}, rowsOf ring len sts pl t ns = none → behindOf ring len sts pl t ns = none
  | [], _, _, h => by rw [rowsOf] at h; cases h
  | n :: r, pl, t, h => by
    rw [rows_go] at h
    rw [behindOf]
    cases e : goOn ring len pl t (stAt sts n) with
    | none => rfl
    | some x =>
      rw [e] at h
      have h2 : (rowsOf ring len sts (stAt sts n).1 x.2.2 r).map (fun rs => x :: rs) = none := h
      rw [Option.map_eq_none_iff] at h2
      exact behind_none h2
theorem behind_last {ring : Bool} {len : Int} {sts : List Stp} {n : Int} {x : Row} : ∀ {ns : List Int} {pl t : Int} {rs : List Row}, rowsOf ring len sts pl t (ns ++ [n]) = some (rs ++ [x]) → behindOf ring len sts pl t (ns ++ [n]) = some ((stAt sts n).1, x.2.2)
  | [], pl, t, rs, h => by
    have h1 : rowsOf ring len sts pl t (n :: []) = some (rs ++ [x]) := h
    rw [rows_go] at h1
    show behindOf ring len sts pl t (n :: []) = _
    rw [behindOf]
    cases e : goOn ring len pl t (stAt sts n) with
    | none => rw [e] at h1; cases h1
    | some y =>
      rw [e] at h1
      have h2 : some [y] = some (rs ++ [x]) := h1
      have h3 := Option.some.inj h2
      cases rs with
      | nil =>
        have h4 : y = x := (List.cons.inj h3).1
        rw [h4]
        rfl
      | cons z zs =>
        have h4 := (List.cons.inj h3).2
        cases zs <;> cases h4
  | m :: ns, pl, t, rs, h => by
    have h1 : rowsOf ring len sts pl t (m :: (ns ++ [n])) = some (rs ++ [x]) := h
    rw [rows_go] at h1
    show behindOf ring len sts pl t (m :: (ns ++ [n])) = _
    rw [behindOf]
    cases e : goOn ring len pl t (stAt sts m) with
    | none => rw [e] at h1; cases h1
    | some y =>
      rw [e] at h1
      have h2 : (rowsOf ring len sts (stAt sts m).1 y.2.2 (ns ++ [n])).map (fun rs => y :: rs) = some (rs ++ [x]) := h1
      cases e2 : rowsOf ring len sts (stAt sts m).1 y.2.2 (ns ++ [n]) with
      | none => rw [e2] at h2; cases h2
      | some zs =>
        rw [e2] at h2
        have h3 : y :: zs = rs ++ [x] := Option.some.inj h2
        have lz := rows_len e2
        rw [List.length_append, List.length_singleton] at lz
        cases rs with
        | nil =>
          have h4 := (List.cons.inj h3).2
          rw [h4] at lz
          cases lz
        | cons u us =>
          have h4 := (List.cons.inj h3).2
          rw [h4] at e2
          exact behind_last e2
def wayV (x : Way) : List V := [optV x.1, .int x.2.1, .int x.2.2]
def WaysR (H : Hp) (qs : List Addr) (ws : List Way) : Prop := Paired (fun p x => H p = some (.tup (wayV x))) qs ws
theorem WaysR.mono {H H' : Hp} {qs : List Addr} {ws : List Way} (e : ∀ a ys, H a = some (.tup ys) → H' a = some (.tup ys)) (h : WaysR H qs ws) : WaysR H' qs ws := Paired.mapP h fun _ _ q => e _ _ q
theorem WaysR.len {H : Hp} {qs : List Addr} {ws : List Way} (h : WaysR H qs ws) : qs.length = ws.length := Paired.length h
theorem WaysR.snoc {H : Hp} {p : Addr} {x : Way} (hs : H p = some (.tup (wayV x))) : ∀ {qs : List Addr} {ws : List Way}, WaysR H qs ws → WaysR H (qs ++ [p]) (ws ++ [x])
  | [], [], _ => .cons hs .nil
  | [], _ :: _, h => by cases h
  | _ :: _, [], h => by cases h
  | _ :: _, _ :: _, h => by
    cases h with
    | cons r t => exact .cons r (WaysR.snoc hs t)
theorem WaysR.get {H : Hp} : ∀ {qs : List Addr} {ws : List Way} {i : Nat} {p : Addr}, WaysR H qs ws → qs[i]? = some p → ∃ x, ws[i]? = some x ∧ H p = some (.tup (wayV x))
  | [], _, i, p, _, e => by simp at e
  | _ :: _, [], _, _, h, _ => by cases h
  | a :: as, s :: ss, 0, p, h, e => by
    cases h with
    | cons r t =>
      simp at e
      subst e
      exact ⟨s, rfl, r⟩
  | a :: as, s :: ss, i + 1, p, h, e => by
    cases h with
    | cons r t =>
      obtain ⟨z, h1, h2⟩ := WaysR.get (i := i) (p := p) t (by simpa using e)
      exact ⟨z, by simpa using h1, h2⟩
theorem tup_at_lst {H : Hp} {p : Addr} {ys : List V} {o : HO} (hp : H p = some (.lst ys)) : ∀ a zs, H a = some (.tup zs) → upd H p o a = some (.tup zs) := fun a zs q => by
  rw [upd_ne (ne_of q hp (by intro z; cases z))]
  exact q
theorem waysOf_snoc {pl : Int → Int} {f : Int → Option TV} {a : List Int} {n : Int} : waysOf pl f (a ++ [n]) = waysOf pl f a ++ (match f n with | none => [] | some v => [(some n, pl n, v.1)]) := by
  unfold waysOf
  rw [List.filterMap_append]
  congr 1
  cases e : f n <;> simp [e]
/-- when the van leaves a stop, come from a place -/
def goTime (ring : Bool) (len : Int) (sts : List Stp) (pl t n : Int) : Option Int := (goOn ring len pl t (stAt sts n)).map fun x => x.2.2
def FoundR (H H' : Hp) (f : Option TV) (x : V) : Prop := (f = none ∧ x = .non) ∨ ∃ v p, f = some v ∧ x = .ref p ∧ H p = none ∧ H' p = some (.tup (valV v))
theorem FoundR.ex {H H' H2 : Hp} {f : Option TV} {x : V} (e : Ex H' H2) (h : FoundR H H' f x) : FoundR H H2 f x := by
  rcases h with h | ⟨v, p, h1, h2, h3, h4⟩
  · exact .inl h
  · exact .inr ⟨v, p, h1, h2, h3, e _ _ h4⟩
/-- the table behind an order, as data -/
def tabOf (ring : Bool) (len : Int) (sts : List Stp) (p0 t0 : Int) (ks : List Key) : List (Key × TV) := entsOf (goTime ring len sts) (fun n => (stAt sts n).1) p0 t0 ks
def tableOf (ring : Bool) (len : Int) (sts : List Stp) (home start : Int) (ns : List Int) : List (Key × TV) := match behindOf ring len sts home start ns with
  | none => []
  | some z => tabOf ring len sts z.1 z.2 (keysAll (restOf sts.length ns))
def minL : List Int → Option Int
  | [] => none
  | x :: r => match minL r with
    | none => some x
    | some y => some (if y < x then y else x)
theorem minL_is : ∀ {xs : List Int} {m : Int}, m ∈ xs → (∀ k ∈ xs, m ≤ k) → minL xs = some m
  | [], _, h, _ => by cases h
  | x :: r, m, h, le => by
    unfold minL
    cases e : minL r with
    | none =>
      cases r with
      | nil => rw [List.mem_singleton.mp h]
      | cons y s =>
        unfold minL at e
        cases e2 : minL s <;> rw [e2] at e <;> cases e
    | some y =>
      have hy : y ∈ r ∧ ∀ k ∈ r, y ≤ k := minL_mem e
      show some (if y < x then y else x) = some m
      have h1 := le y (List.mem_cons_of_mem _ hy.1)
      have h2 := le x (List.mem_cons_self ..)
      rcases List.mem_cons.mp h with h | h
      · subst h
        rw [if_neg (by omega)]
      · have h3 := hy.2 m h
        by_cases c : y < x
        · rw [if_pos c]; congr 1; omega
        · rw [if_neg c]; congr 1; omega
where
  minL_mem : ∀ {xs : List Int} {y : Int}, minL xs = some y → y ∈ xs ∧ ∀ k ∈ xs, y ≤ k
    | [], _, h => by cases h
    | x :: r, y, h => by
      unfold minL at h
      cases e : minL r with
      | none =>
        rw [e] at h
        have h2 : some x = some y := h
        obtain rfl := Option.some.inj h2
        cases r with
        | nil => exact ⟨List.mem_cons_self .., fun k hk => by rw [List.mem_singleton.mp hk]; exact Int.le_refl _⟩
        | cons z s =>
          unfold minL at e
          cases e2 : minL s <;> rw [e2] at e <;> cases e
      | some z =>
        rw [e] at h
        obtain ⟨m1, m2⟩ := minL_mem e
        have h2 : some (if z < x then z else x) = some y := h
        obtain rfl := Option.some.inj h2
        by_cases c : z < x
        · rw [if_pos c]
          refine ⟨List.mem_cons_of_mem _ m1, fun k hk => ?_⟩
          rcases List.mem_cons.mp hk with rfl | hk
          · omega
          · exact m2 k hk
        · rw [if_neg c]
          refine ⟨List.mem_cons_self .., fun k hk => ?_⟩
          rcases List.mem_cons.mp hk with rfl | hk
          · omega
          · have := m2 k hk
            omega
/-- when the van is home behind all -/
def homesOf (ring : Bool) (len home : Int) (sts : List Stp) (es : List (Key × TV)) (rest : List Int) : List Int := (waysOf (fun n => (stAt sts n).1) (fun n => look es (rest, n)) rest).map fun w => w.2.2 + apartOf ring len w.2.1 home
def leastOf (ring : Bool) (len : Int) (sts : List Stp) (home start : Int) (ns : List Int) : Option Int := if restOf sts.length ns = [] then (behindOf ring len sts home start ns).map fun z => z.2 + apartOf ring len z.1 home
  else minL (homesOf ring len home sts (tableOf ring len sts home start ns) (restOf sts.length ns))
theorem minL_none {xs : List Int} : minL xs = none ↔ xs = [] := by
  cases xs with
  | nil => simp [minL]
  | cons x r =>
    unfold minL
    cases minL r <;> simp
theorem minL_congr {a b : List Int} (h : ∀ x, x ∈ a ↔ x ∈ b) : minL a = minL b := by
  cases e : minL a with
  | none =>
    have ea := minL_none.mp e
    subst ea
    have eb : b = [] := List.eq_nil_iff_forall_not_mem.mpr fun x hx => by have := (h x).mpr hx; cases this
    rw [eb]
    rfl
  | some m =>
    obtain ⟨m1, m2⟩ := minL_is.minL_mem e
    exact (minL_is ((h m).mp m1) fun k hk => m2 k ((h k).mpr hk)).symm
theorem rest_perm {ns : List Int} {m : Nat} (ok : ordOk ns m) : (ns ++ restOf m ns).Perm ((List.range m).map fun i : Nat => (i : Int)) := by
  have nd2 : ((List.range m).map fun i : Nat => (i : Int)).Nodup := by
    rw [List.Nodup, List.pairwise_map]
    exact List.nodup_range.imp fun h z => h (by omega)
  have nd1 : (ns ++ restOf m ns).Nodup := by
    rw [List.nodup_append]
    exact ⟨ok.2, rest_nodup m ns, fun a ha b hb e => (rest_mem.mp hb).2 (e ▸ ha)⟩
  refine (List.perm_ext_iff_of_nodup nd1 nd2).mpr fun x => ?_
  rw [List.mem_append, rest_mem, List.mem_map]
  constructor
  · rintro (h | ⟨h, _⟩)
    · obtain ⟨h0, h1⟩ := ok.1 x h
      exact ⟨x.toNat, List.mem_range.mpr (by omega), by omega⟩
    · exact ⟨x.toNat, List.mem_range.mpr (by omega), by omega⟩
  · rintro ⟨i, hi, rfl⟩
    have := List.mem_range.mp hi
    by_cases c : (i : Int) ∈ ns
    · exact .inl c
    · exact .inr ⟨⟨by omega, by omega⟩, c⟩
theorem rest_nil {ns : List Int} {m : Nat} (ok : ordOk ns m) : restOf m ns = [] ↔ ns.length = m := by
  have h := (rest_perm ok).length_eq
  rw [List.length_append, List.length_map, List.length_range] at h
  constructor
  · intro z
    rw [z] at h
    simpa using h
  · intro z
    exact List.eq_nil_of_length_eq_zero (by omega)
theorem homes_nil {ring : Bool} {len home : Int} {sts : List Stp} (rest : List Int) : homesOf ring len home sts [] rest = [] := by
  unfold homesOf waysOf
  have e : (rest.filterMap fun n => (look [] (rest, n)).map fun v => ((some n, (stAt sts n).1, v.1) : Way)) = [] := by
    rw [List.filterMap_eq_nil_iff]
    intro a _
    rfl
  rw [e]
  rfl
theorem least_none {ring : Bool} {len home start : Int} {sts : List Stp} {ns : List Int} (h : behindOf ring len sts home start ns = none) : leastOf ring len sts home start ns = none := by
  unfold leastOf
  rw [h]
  by_cases c : restOf sts.length ns = []
  · rw [if_pos c]; rfl
  · rw [if_neg c]
    have te : tableOf ring len sts home start ns = [] := by unfold tableOf; rw [h]
    rw [te, homes_nil]
    rfl
theorem rg_ints (many : Nat) : ∃ ls : List Int, rgV 0 (many : Int) = ls.map V.int ∧ ls.length = many := by
  refine ⟨(List.range ((many : Int) - 0).toNat).map (fun i : Nat => 0 + (i : Int)), ?_, ?_⟩
  · unfold rgV
    rw [List.map_map]
    rfl
  · rw [List.length_map, List.length_range]
    omega
/-- a list without the one at k -/
theorem cut_out {ls : List Int} {k : Nat} (h : k < ls.length) : cutV (ls.map V.int) none (some (k : Int)) ++ cutV (ls.map V.int) (some ((k : Int) + 1)) none = (ls.take k ++ ls.drop (k + 1)).map V.int ∧ (ls.take k ++ ls.drop (k + 1)).length = ls.length - 1 := by
  have hl : (ls.map V.int).length = ls.length := List.length_map _
  refine ⟨?_, ?_⟩
  · rw [cut_to (by omega)]
    have e := cut_from (xs := ls.map V.int) (k := k + 1) (by omega)
    rw [show ((k : Int) + 1) = ((k + 1 : Nat) : Int) by omega, e, List.map_append, List.map_take, List.map_drop]
  · rw [List.length_append, List.length_take, List.length_drop]
    omega
theorem cut_put {ls : List Int} {k : Nat} {v : Int} (h : k ≤ ls.length) : cutV (ls.map V.int) none (some (k : Int)) ++ [V.int v] ++ cutV (ls.map V.int) (some (k : Int)) none = (ls.take k ++ [v] ++ ls.drop k).map V.int ∧ (ls.take k ++ [v] ++ ls.drop k).length = ls.length + 1 := by
  have hl : (ls.map V.int).length = ls.length := List.length_map _
  refine ⟨?_, ?_⟩
  · rw [cut_to (by omega), cut_from (by omega)]
    simp only [List.map_append, List.map_take, List.map_drop, List.map_cons, List.map_nil]
  · rw [List.length_append, List.length_append, List.length_take, List.length_drop, List.length_singleton]
    omega
theorem cut_outI {ls : List Int} {i : Int} (h0 : 0 ≤ i) (h1 : i < ls.length) : ∃ os : List Int, cutV (ls.map V.int) none (some i) ++ cutV (ls.map V.int) (some (i + 1)) none = os.map V.int ∧ os.length = ls.length - 1 := by
  obtain ⟨k, rfl⟩ : ∃ k : Nat, i = k := ⟨i.toNat, by omega⟩
  obtain ⟨c1, c2⟩ := cut_out (ls := ls) (k := k) (by omega)
  exact ⟨_, c1, c2⟩
theorem cut_putI {ls : List Int} {i v : Int} (h0 : 0 ≤ i) (h1 : i ≤ ls.length) : ∃ os : List Int, cutV (ls.map V.int) none (some i) ++ [V.int v] ++ cutV (ls.map V.int) (some i) none = os.map V.int ∧ os.length = ls.length + 1 := by
  obtain ⟨k, rfl⟩ : ∃ k : Nat, i = k := ⟨i.toNat, by omega⟩
  obtain ⟨c1, c2⟩ := cut_put (ls := ls) (k := k) (v := v) (by omega)
  exact ⟨_, c1, c2⟩
theorem int_at {ls : List Int} {i : Int} (h0 : 0 ≤ i) (h1 : i < ls.length) : ∃ z, atI (ls.map V.int) i = some (.int z) := by
  obtain ⟨v, hv, hv2⟩ := atI_lt (xs := ls.map V.int) h0 (by rw [List.length_map]; exact h1)
  obtain ⟨z, hz, rfl⟩ := map_int_get hv2
  exact ⟨z, hv⟩
theorem stAt_mem {sts : List Stp} {n : Int} (h0 : 0 ≤ n) (h1 : n < sts.length) : stAt sts n ∈ sts := List.mem_of_getElem? (stAt_eq h0 h1)
theorem good_flt {ring : Bool} {len home start : Int} {sts : List Stp} (l1 : 1 ≤ len) (l2 : len ≤ 1000000000) (hh : onRoad ring len home) (ht : isTime start) (h7 : sts.length ≤ 7) (hg : ∀ s ∈ sts, goodStop ring len s) : dayFlt (wordOf ring) len home start sts = none := by
  have hw : decide (wordOf ring = "ring") = ring := by cases ring <;> decide +kernel
  have p1 : isRoad (wordOf ring) len := ⟨by cases ring <;> decide +kernel, l1, l2⟩
  have hs : ∀ r : List Stp, (∀ s ∈ r, goodStop ring len s) → stopsFlt ring len r = none := by
    intro r
    induction r with
    | nil => intro _; rfl
    | cons s r ih =>
      intro h
      obtain ⟨g1, g2, g3, g4, g5, g6⟩ := h s (List.mem_cons_self ..)
      have e : stopFlt ring len s = none := by
        unfold stopFlt
        rw [if_neg (fun z => z g1), if_neg (fun z => z ⟨⟨by omega, by omega⟩, ⟨by omega, by omega⟩, ⟨by omega, by omega⟩⟩), if_neg (by omega)]
      unfold stopsFlt
      rw [e]
      exact ih fun x hx => h x (List.mem_cons_of_mem _ hx)
  unfold dayFlt
  rw [hw, if_neg (fun z => z p1), if_neg (fun z => z hh), if_neg (fun z => z ht), if_neg (by omega), hs sts hg]
theorem cut_one (ts : List Int) : ∃ us : List Int, cutV (ts.map V.int) none (some (1 : Int)) = us.map V.int ∧ us.length ≤ 1 := by
  cases ts with
  | nil => exact ⟨[], by decide +kernel, by decide⟩
  | cons t r =>
    have e := cut_to (xs := (t :: r).map V.int) (k := 1) (by rw [List.length_map, List.length_cons]; omega)
    refine ⟨(t :: r).take 1, ?_, by rw [List.length_take]; omega⟩
    rw [List.map_take]
    exact e
theorem neg_at {gs : List Int} {i : Nat} (h : i < gs.length) : ∃ z, atI (gs.map V.int) (-1 - (0 + (i : Int))) = some (.int z) := by
  have hl : (gs.map V.int).length = gs.length := List.length_map _
  have hk : gs.length - 1 - i < gs.length := by omega
  refine ⟨gs[gs.length - 1 - i], ?_⟩
  have e : ixN (gs.map V.int).length (-1 - (0 + (i : Int))) = some (gs.length - 1 - i) := by
    unfold ixN
    rw [hl, if_neg (by omega), if_pos (by omega)]
    congr 1
    omega
  unfold atI
  rw [e]
  show (gs.map V.int)[gs.length - 1 - i]? = _
  rw [List.getElem?_map, List.getElem?_eq_getElem hk]
  rfl
def intsD (ns : List Int) : PyData := .list (ns.map PyData.int)
theorem ints_all {K : PySem.W.Frag} {H : Hp} : ∀ ns : List Int, DpAll K H (ns.map V.int) (ns.map PyData.int)
  | [] => .nil
  | n :: r => .cons (.int n) (ints_all r)
theorem ints_dp {K : PySem.W.Frag} {H : Hp} {o : Addr} {ns : List Int} (h : SqL K H o (ns.map V.int)) : Dp K H (.ref o) (intsD ns) := .lst h (ints_all ns)
theorem canLay_ints : ∀ ns : List Int, PyData.canLayAll0 (ns.map PyData.int) = true
  | [] => by simp [PyData.canLayAll0]
  | n :: r => by
    have ih := canLay_ints r
    simp only [List.map_cons, PyData.canLayAll0, ih, Bool.and_true]
    simp [PyData.canLay0]
theorem depth_ints : ∀ ns : List Int, PyData.depthAll (ns.map PyData.int) ≤ 2
  | [] => by simp [PyData.depthAll]
  | n :: r => by
    have ih := depth_ints r
    simp only [List.map_cons, PyData.depthAll]
    have : PyData.depth (PyData.int n) ≤ 2 := by simp [PyData.depth]
    omega
theorem shaped_ints (ns : List Int) : SeqAt.shaped (intsD ns) = true := by
  have h1 := canLay_ints ns
  have h2 := depth_ints ns
  unfold SeqAt.shaped intsD
  rw [Bool.and_eq_true]
  refine ⟨by simpa [PyData.canLay0] using h1, decide_eq_true ?_⟩
  simp only [PyData.depth]
  omega
theorem strOk_word (ring : Bool) : PyData.strOk (wordOf ring) = true := by cases ring <;> decide +kernel
def partsD (ring : Bool) (len home start : Int) : PyData := .tuple [.tuple [.str (wordOf ring), .int len], .int home, .int start]
theorem shaped_parts (ring : Bool) (len home start : Int) : SeqAt.shaped (partsD ring len home start) = true := by
  have hs := strOk_word ring
  unfold SeqAt.shaped partsD
  simp [PyData.canLay0, PyData.canLayAll0, PyData.depth, PyData.depthAll, hs]
theorem parts_dp {K : PySem.W.Frag} {H : Hp} {p r : Addr} {ring : Bool} {len home start : Int} (hp : SqT K H p [.ref r, .int home, .int start]) (hr : SqT K H r (roadV ring len)) : Dp K H (.ref p) (partsD ring len home start) := .tup hp (.cons (.tup hr (.cons (.str _) (.cons (.int _) .nil))) (.cons (.int _) (.cons (.int _) .nil)))
theorem cut_is (xs : List V) (a b : Nat) : cutV xs (some (a : Int)) (some (b : Int)) = (xs.drop (min a xs.length)).take (min b xs.length - min a xs.length) := by
  unfold cutV
  rw [HT.sIx_nat, HT.sIx_nat]
def swapL : List Int → List Int
  | x :: y :: r => y :: x :: r
  | l => l
theorem swap_cut : ∀ os : List Int, cutV (os.map V.int) (some (1 : Int)) (some (2 : Int)) ++ cutV (os.map V.int) none (some (1 : Int)) ++ cutV (os.map V.int) (some (2 : Int)) none = (swapL os).map V.int
  | [] => rfl
  | [x] => rfl
  | x :: y :: r => by
    have e1 := cut_is ((x :: y :: r).map V.int) 1 2
    have e2 := cut_to (xs := (x :: y :: r).map V.int) (k := 1) (by simp)
    have e3 := cut_from (xs := (x :: y :: r).map V.int) (k := 2) (by simp)
    have z1 : cutV ((x :: y :: r).map V.int) (some (1 : Int)) (some (2 : Int)) = [V.int y] := by
      refine e1.trans ?_
      have m1 : min 1 ((x :: y :: r).map V.int).length = 1 := by simp only [List.length_map, List.length_cons]; omega
      have m2 : min 2 ((x :: y :: r).map V.int).length = 2 := by simp only [List.length_map, List.length_cons]; omega
      rw [m1, m2]
      rfl
    have z2 : cutV ((x :: y :: r).map V.int) none (some (1 : Int)) = [V.int x] := e2.trans rfl
    have z3 : cutV ((x :: y :: r).map V.int) (some (2 : Int)) none = r.map V.int := e3.trans rfl
    rw [z1, z2, z3]
    rfl
theorem swap_perm : ∀ os : List Int, (swapL os).Perm os
  | [] => List.Perm.refl _
  | [_] => List.Perm.refl _
  | x :: y :: r => List.Perm.swap x y r
theorem ordOk_perm {a b : List Int} {m : Nat} (p : a.Perm b) (h : ordOk b m) : ordOk a m := ⟨fun x hx => h.1 x (p.subset hx), p.nodup_iff.mpr h.2⟩
theorem turn_at {gs : List Int} {i : Nat} (h : i < gs.length) : atI (gs.map V.int) (-1 - (0 + (i : Int))) = some (.int (gs.reverse.getD i 0)) := by
  have hl : (gs.map V.int).length = gs.length := List.length_map _
  have hk : gs.length - 1 - i < gs.length := by omega
  have e : ixN (gs.map V.int).length (-1 - (0 + (i : Int))) = some (gs.length - 1 - i) := by
    unfold ixN
    rw [hl, if_neg (by omega), if_pos (by omega)]
    congr 1
    omega
  unfold atI
  rw [e]
  show (gs.map V.int)[gs.length - 1 - i]? = _
  rw [List.getElem?_map, List.getElem?_eq_getElem hk, List.getD_eq_getElem?_getD, List.getElem?_reverse h, List.getElem?_eq_getElem hk]
  rfl
/-- different numbers below many, in a list -/
theorem perm_out {ls : List Int} {k : Nat} {z : Int} (h : ls[k]? = some z) : ls.Perm (z :: (ls.take k ++ ls.drop (k + 1))) := by
  obtain ⟨h1, h2⟩ := List.getElem?_eq_some_iff.mp h
  have e : ls = ls.take k ++ z :: ls.drop (k + 1) := by rw [← h2, ← List.drop_eq_getElem_cons h1, List.take_append_drop]
  have p : (ls.take k ++ z :: ls.drop (k + 1)).Perm (z :: (ls.take k ++ ls.drop (k + 1))) := List.perm_middle
  rw [← e] at p
  exact p
theorem StopsR.at_dn {P : Program} {w : World} {K : PySem.W.Frag} {H : Hp} {t : Addr} {xs : List NEnt} {o : HO} {ps : List Addr} {sts : List Stp} (ht : H t = some (DN P w t xs)) (h : StopsR K H ps sts) : StopsR K (upd H t o) ps sts := Paired.mapP h fun _ _ q => SqT.at_dn ht q
theorem rise_eq : ∀ {a b : List Int}, a.Pairwise (· < ·) → b.Pairwise (· < ·) → (∀ x, x ∈ a ↔ x ∈ b) → a = b
  | [], [], _, _, _ => rfl
  | [], y :: b, _, _, h => by have := (h y).mpr (List.mem_cons_self ..); cases this
  | x :: a, [], _, _, h => by have := (h x).mp (List.mem_cons_self ..); cases this
  | x :: a, y :: b, ha, hb, h => by
    obtain ⟨a1, a2⟩ := List.pairwise_cons.mp ha
    obtain ⟨b1, b2⟩ := List.pairwise_cons.mp hb
    have e : x = y := by
      rcases List.mem_cons.mp ((h x).mp (List.mem_cons_self ..)) with e | m
      · exact e
      · rcases List.mem_cons.mp ((h y).mpr (List.mem_cons_self ..)) with e2 | m2
        · exact e2.symm
        · have h1 := b1 x m
          have h2 := a1 y m2
          omega
    subst e
    have rest : ∀ z, z ∈ a ↔ z ∈ b := fun z => by
      constructor
      · intro m
        rcases List.mem_cons.mp ((h z).mp (List.mem_cons_of_mem _ m)) with e | m2
        · have := a1 z m
          omega
        · exact m2
      · intro m
        rcases List.mem_cons.mp ((h z).mpr (List.mem_cons_of_mem _ m)) with e | m2
        · have := b1 z m
          omega
        · exact m2
    rw [rise_eq a2 b2 rest]
theorem perm_rise {a b : List Int} (p : a.Perm b) (le : a.Pairwise (· ≤ ·)) (ri : b.Pairwise (· < ·)) : a = b := by
  have nd : a.Nodup := p.nodup_iff.mpr (ri.imp fun h => by omega)
  exact rise_eq (lt_of_le_nodup a le nd) ri fun x => p.mem_iff
/-- what the law's walk has of times home -/
def allHomes (ring : Bool) (len home : Int) (sts : List Stp) (es : List (Key × TV)) (many : Nat) : List Int := (es.filter fun e => decide (e.1.1.length = many)).map fun e => e.2.1 + apartOf ring len (stAt sts e.1.2).1 home
theorem lk_put {t p : Addr} {od : Obj} {u o : HO} {G : Hp} (n : p ≠ t) : upd (Lk t od u G) p o = Lk t od u (upd G p o) := by
  funext b
  by_cases c : b = p
  · subst c
    show upd (upd G t _) b o b = upd (upd G b o) t _ b
    rw [upd_same, upd_ne n, upd_same]
  · show upd (upd G t _) p o b = upd (upd G p o) t _ b
    by_cases c2 : b = t
    · subst c2; rw [upd_ne c, upd_same, upd_same]
    · rw [upd_ne c, upd_ne c2, upd_ne c2, upd_ne c]
theorem homes_all {ring : Bool} {len home p0 t0 : Int} {sts : List Stp} {ls : List Int} (x : Int) : x ∈ allHomes ring len home sts (tabOf ring len sts p0 t0 (keysAll ls)) ls.length ↔ x ∈ homesOf ring len home sts (tabOf ring len sts p0 t0 (keysAll ls)) ls := by
  unfold allHomes homesOf
  constructor
  · intro h
    obtain ⟨⟨⟨done, last⟩, v⟩, he, rfl⟩ := List.mem_map.mp h
    obtain ⟨he, hl⟩ := List.mem_filter.mp he
    obtain ⟨km, hc⟩ := mem_ents.mp he
    obtain ⟨sub, lm⟩ := mem_keysAll.mp km
    have ed : done = ls := sub.eq_of_length (of_decide_eq_true hl)
    subst ed
    refine List.mem_map.mpr ⟨_, mem_ways.mpr ⟨last, v, lm, ?_, rfl⟩, rfl⟩
    exact (look_all (go := goTime ring len sts) (List.Sublist.refl _) lm).trans hc
  · intro h
    obtain ⟨w, hw, rfl⟩ := List.mem_map.mp h
    obtain ⟨n, u, hn, hu, rfl⟩ := mem_ways.mp hw
    have hc := (look_all (go := goTime ring len sts) (pl := fun n => (stAt sts n).1) (p0 := p0) (t0 := t0) (List.Sublist.refl ls) hn).symm.trans hu
    refine List.mem_map.mpr ⟨((ls, n), u), List.mem_filter.mpr ⟨mem_ents.mpr ⟨mem_keysAll.mpr ⟨List.Sublist.refl _, hn⟩, hc⟩, by simp⟩, rfl⟩
/-! ### what the table means -/
section
variable {go : Int → Int → Int → Option Int} {pl : Int → Int}
/-- driving an order -/
def drv (go : Int → Int → Int → Option Int) (pl : Int → Int) : Int → Int → List Int → Option (Int × Int)
  | p, t, [] => some (p, t)
  | p, t, n :: r => (go p t n).bind fun t' => drv go pl (pl n) t' r
theorem drv_app {a b : List Int} : ∀ {p t : Int}, drv go pl p t (a ++ b) = (drv go pl p t a).bind fun z => drv go pl z.1 z.2 b := by
  induction a with
  | nil => intro p t; rfl
  | cons n r ih =>
    intro p t
    show (go p t n).bind (fun t' => drv go pl (pl n) t' (r ++ b)) = ((go p t n).bind fun t' => drv go pl (pl n) t' r).bind _
    cases go p t n with
    | none => rfl
    | some t' => exact ih
theorem drv_snoc {a : List Int} {n p t : Int} : drv go pl p t (a ++ [n]) = (drv go pl p t a).bind fun z => (go z.1 z.2 n).map fun t' => (pl n, t') := by
  rw [drv_app]
  cases drv go pl p t a with
  | none => rfl
  | some z =>
    show (go z.1 z.2 n).bind (fun t' => drv go pl (pl n) t' []) = (go z.1 z.2 n).map _
    cases go z.1 z.2 n <;> rfl
/-- who comes earlier leaves no later -/
def Mono (go : Int → Int → Int → Option Int) : Prop := ∀ p t t' n w, t' ≤ t → go p t n = some w → ∃ w', go p t' n = some w' ∧ w' ≤ w
theorem others_nil {done : List Int} {last : Int} (nd : done.Nodup) (m : last ∈ done) (o : othersOf done last = []) : done = [last] := by
  have h := others_len nd m
  rw [o] at h
  cases done with
  | nil => cases m
  | cons x r =>
    have hr : r = [] := List.eq_nil_of_length_eq_zero (by rw [List.length_nil, List.length_cons] at h; omega)
    subst hr
    rw [List.mem_singleton.mp m]
theorem others_perm {done : List Int} {last : Int} (nd : done.Nodup) (m : last ∈ done) : (othersOf done last ++ [last]).Perm done := by
  have nd2 : (othersOf done last ++ [last]).Nodup := by
    rw [List.nodup_append]
    refine ⟨nd.filter _, by simp, fun a ha b hb e => ?_⟩
    rw [List.mem_singleton.mp hb] at e
    subst e
    unfold othersOf at ha
    have := (List.mem_filter.mp ha).2
    simp at this
  refine (List.perm_ext_iff_of_nodup nd2 nd).mpr fun x => ?_
  unfold othersOf
  rw [List.mem_append, List.mem_filter, List.mem_singleton]
  constructor
  · rintro (⟨h, _⟩ | h)
    · exact h
    · subst h; exact m
  · intro h
    by_cases c : x = last
    · exact .inr c
    · exact .inl ⟨h, by simpa using c⟩
theorem cell_sound {p0 t0 : Int} : ∀ (k : Nat) {done : List Int} {last : Int} {v : TV}, done.length = k → done.Pairwise (· < ·) → last ∈ done → cell go pl p0 t0 done last = some v → ∃ o : List Int, (o ++ [last]).Perm done ∧ drv go pl p0 t0 (o ++ [last]) = some (pl last, v.1)
  | 0, done, last, v, hk, _, m, _ => by rw [List.eq_nil_of_length_eq_zero hk] at m; cases m
  | k + 1, done, last, v, hk, ri, m, hc => by
    have nd : done.Nodup := ri.imp fun h => by omega
    by_cases c : othersOf done last = []
    · obtain ⟨_, g⟩ := ent_one nd m hc c
      refine ⟨[], by rw [others_nil nd m c]; exact List.Perm.refl _, ?_⟩
      rw [drv_snoc]
      show (go p0 t0 last).map (fun t' => (pl last, t')) = _
      rw [g]
      rfl
    · obtain ⟨b, u, _, hb, hu, g, _⟩ := ent_more ri m hc c
      have l := others_len nd m
      obtain ⟨o, po, ho⟩ := cell_sound k (done := othersOf done last) (by omega) (ri.filter _) hb hu
      refine ⟨o ++ [b], ?_, ?_⟩
      · exact (po.append_right [last]).trans (others_perm nd m)
      · rw [drv_snoc, ho]
        show (go (pl b) u.1 last).map (fun t' => (pl last, t')) = _
        rw [g]
        rfl
theorem cell_least {p0 t0 : Int} (mono : Mono go) : ∀ (k : Nat) {done o : List Int} {last w : Int}, done.length = k → done.Pairwise (· < ·) → (o ++ [last]).Perm done → drv go pl p0 t0 (o ++ [last]) = some (pl last, w) → ∃ v, cell go pl p0 t0 done last = some v ∧ v.1 ≤ w
  | 0, done, o, last, w, hk, _, pm, _ => by
    have := pm.length_eq
    rw [hk, List.length_append, List.length_singleton] at this
    omega
  | k + 1, done, o, last, w, hk, ri, pm, hd => by
    have nd : done.Nodup := ri.imp fun h => by omega
    have m : last ∈ done := pm.mem_iff.mp (by simp)
    have l := others_len nd m
    have po : o.Perm (othersOf done last) := by
      have h1 : (o ++ [last]).Perm (othersOf done last ++ [last]) := pm.trans (others_perm nd m).symm
      exact (List.perm_append_right_iff [last]).mp h1
    rw [drv_snoc] at hd
    rw [cell_eq go pl p0 t0 nd m]
    rcases List.eq_nil_or_concat o with rfl | ⟨o', b, rfl⟩
    · have c : othersOf done last = [] := List.eq_nil_of_length_eq_zero (by rw [← po.length_eq]; rfl)
      rw [if_pos c]
      have hd2 : (go p0 t0 last).map (fun t' => (pl last, t')) = some (pl last, w) := hd
      obtain ⟨t', g, e⟩ := Option.map_eq_some_iff.mp hd2
      have e2 : t' = w := (Prod.mk.inj e).2
      subst e2
      exact early_le go (w := (none, p0, t0)) (List.mem_singleton.mpr rfl) g
    · rw [List.concat_eq_append] at po hd
      have hb : b ∈ othersOf done last := po.mem_iff.mp (by simp)
      rw [if_neg (fun z => by rw [z] at hb; cases hb)]
      cases hx : drv go pl p0 t0 (o' ++ [b]) with
      | none => rw [hx] at hd; cases hd
      | some zb =>
        have hz := hx
        rw [drv_snoc] at hx
        cases hy : drv go pl p0 t0 o' with
        | none => rw [hy] at hx; cases hx
        | some za =>
          rw [hy] at hx
          obtain ⟨tb, _, eb⟩ := Option.map_eq_some_iff.mp (show (go za.1 za.2 b).map (fun t' => (pl b, t')) = some zb from hx)
          subst eb
          obtain ⟨u, hu, le⟩ := cell_least mono k (done := othersOf done last) (by omega) (ri.filter _) po hz
          rw [hz] at hd
          obtain ⟨t', g, e⟩ := Option.map_eq_some_iff.mp (show (go (pl b) tb last).map (fun t' => (pl last, t')) = some (pl last, w) from hd)
          have e2 : t' = w := (Prod.mk.inj e).2
          subst e2
          obtain ⟨w', g', le'⟩ := mono _ _ _ _ _ le g
          obtain ⟨v, ev, lv⟩ := early_le go (mem_ways (pl := pl).mpr ⟨b, u, hb, hu, rfl⟩) g'
          exact ⟨v, ev, by omega⟩
end

theorem mono_goTime (ring : Bool) (len : Int) (sts : List Stp) : Mono (goTime ring len sts) := by
  intro p t t' n w le h
  unfold goTime goOn at h ⊢
  by_cases c : t + apartOf ring len p (stAt sts n).1 > (stAt sts n).2.2.1
  · rw [if_pos c] at h; cases h
  · rw [if_neg c] at h
    rw [if_neg (by omega)]
    refine ⟨_, rfl, ?_⟩
    have h2 := Option.some.inj h
    show maxOf (t' + apartOf ring len p (stAt sts n).1) (stAt sts n).2.1 + (stAt sts n).2.2.2 ≤ w
    rw [← h2]
    show _ ≤ maxOf (t + apartOf ring len p (stAt sts n).1) (stAt sts n).2.1 + (stAt sts n).2.2.2
    unfold maxOf
    split <;> split <;> omega
theorem behind_drv {ring : Bool} {len : Int} {sts : List Stp} : ∀ {ns : List Int} {p t : Int}, behindOf ring len sts p t ns = drv (goTime ring len sts) (fun n => (stAt sts n).1) p t ns
  | [], _, _ => rfl
  | n :: r, p, t => by
    show (goOn ring len p t (stAt sts n)).bind (fun x => behindOf ring len sts (stAt sts n).1 x.2.2 r) = (goTime ring len sts p t n).bind _
    unfold goTime
    cases goOn ring len p t (stAt sts n) with
    | none => rfl
    | some x => exact behind_drv
section
variable (ring : Bool) (len home start : Int) (sts : List Stp)
/-- e is the end of a tour that begins with ns -/
def Ends (ns : List Int) (e : Int) : Prop := ∃ (o : List Int) (z : Int × Int), o.Perm (restOf sts.length ns) ∧ behindOf ring len sts home start (ns ++ o) = some z ∧ e = z.2 + apartOf ring len z.1 home
def IsLeast (ns : List Int) : Option Int → Prop
  | none => ∀ e, ¬ Ends ring len home start sts ns e
  | some m => Ends ring len home start sts ns m ∧ ∀ e, Ends ring len home start sts ns e → m ≤ e
theorem least_is {ns : List Int} : IsLeast ring len home start sts ns (leastOf ring len sts home start ns) := by
  cases hb : behindOf ring len sts home start ns with
  | none =>
    rw [least_none hb]
    rintro e ⟨o, z, _, hz, _⟩
    rw [behind_drv, drv_app, ← behind_drv, hb] at hz
    cases hz
  | some z0 =>
    have split : ∀ o, behindOf ring len sts home start (ns ++ o) = behindOf ring len sts z0.1 z0.2 o := fun o => by
      rw [behind_drv, drv_app, ← behind_drv, hb]
      exact behind_drv.symm
    by_cases c : restOf sts.length ns = []
    · have el : leastOf ring len sts home start ns = some (z0.2 + apartOf ring len z0.1 home) := by
        unfold leastOf
        rw [if_pos c, hb]
        rfl
      rw [el]
      have all : ∀ e, Ends ring len home start sts ns e ↔ e = z0.2 + apartOf ring len z0.1 home := by
        intro e
        constructor
        · rintro ⟨o, z, po, hz, rfl⟩
          rw [c] at po
          have eo : o = [] := po.eq_nil
          rw [eo, List.append_nil, hb] at hz
          rw [← Option.some.inj hz]
        · intro he
          exact ⟨[], z0, by rw [c], by rw [List.append_nil]; exact hb, he⟩
      exact ⟨(all _).mpr rfl, fun e he => by rw [(all e).mp he]; exact Int.le_refl _⟩
    · have te : tableOf ring len sts home start ns = tabOf ring len sts z0.1 z0.2 (keysAll (restOf sts.length ns)) := by unfold tableOf; rw [hb]
      have el : leastOf ring len sts home start ns = minL (homesOf ring len home sts (tabOf ring len sts z0.1 z0.2 (keysAll (restOf sts.length ns))) (restOf sts.length ns)) := by
        unfold leastOf
        rw [if_neg c, te]
      have ri := rest_rise sts.length ns
      have lk : ∀ n ∈ restOf sts.length ns, look (tabOf ring len sts z0.1 z0.2 (keysAll (restOf sts.length ns))) (restOf sts.length ns, n) = cell (goTime ring len sts) (fun n => (stAt sts n).1) z0.1 z0.2 (restOf sts.length ns) n := fun n hn => look_all (List.Sublist.refl _) hn
      have sound : ∀ x ∈ homesOf ring len home sts (tabOf ring len sts z0.1 z0.2 (keysAll (restOf sts.length ns))) (restOf sts.length ns), Ends ring len home start sts ns x := by
        intro x hx
        unfold homesOf at hx
        obtain ⟨w, hw, rfl⟩ := List.mem_map.mp hx
        obtain ⟨n, u, hn, hu, rfl⟩ := mem_ways.mp hw
        rw [lk n hn] at hu
        obtain ⟨o, po, ho⟩ := cell_sound _ rfl ri hn hu
        exact ⟨o ++ [n], ((stAt sts n).1, u.1), po, by rw [split, behind_drv]; exact ho, rfl⟩
      have least : ∀ e, Ends ring len home start sts ns e → ∃ x ∈ homesOf ring len home sts (tabOf ring len sts z0.1 z0.2 (keysAll (restOf sts.length ns))) (restOf sts.length ns), x ≤ e := by
        rintro e ⟨o, z, po, hz, rfl⟩
        rw [split, behind_drv] at hz
        rcases List.eq_nil_or_concat o with rfl | ⟨o', n, rfl⟩
        · exact absurd po.nil_eq.symm c
        · rw [List.concat_eq_append] at po hz
          have hn : n ∈ restOf sts.length ns := po.mem_iff.mp (by simp)
          have hz2 := hz
          rw [drv_snoc] at hz2
          cases ha : drv (goTime ring len sts) (fun n => (stAt sts n).1) z0.1 z0.2 o' with
          | none => rw [ha] at hz2; cases hz2
          | some za =>
            rw [ha] at hz2
            obtain ⟨t', _, ez⟩ := Option.map_eq_some_iff.mp (show (goTime ring len sts za.1 za.2 n).map (fun t' => ((stAt sts n).1, t')) = some z from hz2)
            subst ez
            obtain ⟨v, hv, le⟩ := cell_least (mono_goTime ring len sts) _ rfl ri po hz
            refine ⟨v.1 + apartOf ring len (stAt sts n).1 home, ?_, by show v.1 + apartOf ring len (stAt sts n).1 home ≤ t' + apartOf ring len (stAt sts n).1 home; omega⟩
            unfold homesOf
            exact List.mem_map.mpr ⟨_, mem_ways.mpr ⟨n, v, hn, (lk n hn).trans hv, rfl⟩, rfl⟩
      rw [el]
      cases hm : minL (homesOf ring len home sts (tabOf ring len sts z0.1 z0.2 (keysAll (restOf sts.length ns))) (restOf sts.length ns)) with
      | none =>
        intro e he
        obtain ⟨x, hx, _⟩ := least e he
        rw [minL_none.mp hm] at hx
        cases hx
      | some m =>
        obtain ⟨m1, m2⟩ := minL_is.minL_mem hm
        refine ⟨sound m m1, fun e he => ?_⟩
        obtain ⟨x, hx, le⟩ := least e he
        have := m2 x hx
        omega
/-- a tour goes on by some stop -/
theorem ends_step {ns : List Int} {e : Int} (h : Ends ring len home start sts ns e) (ne : restOf sts.length ns ≠ []) : ∃ n ∈ restOf sts.length ns, Ends ring len home start sts (ns ++ [n]) e := by
  obtain ⟨o, z, po, hz, he⟩ := h
  cases o with
  | nil => exact absurd po.nil_eq.symm ne
  | cons n r =>
    have hn : n ∈ restOf sts.length ns := po.mem_iff.mp (List.mem_cons_self ..)
    refine ⟨n, hn, r, z, ?_, by rw [List.append_assoc]; exact hz, he⟩
    exact rest_cons po
where
  rest_cons {ns r : List Int} {n : Int} {m : Nat} (po : (n :: r).Perm (restOf m ns)) : r.Perm (restOf m (ns ++ [n])) := by
    have nd : (n :: r).Nodup := po.nodup_iff.mpr (rest_nodup m ns)
    obtain ⟨n1, n2⟩ := List.nodup_cons.mp nd
    refine (List.perm_ext_iff_of_nodup n2 (rest_nodup m _)).mpr fun x => ?_
    rw [rest_mem, List.mem_append, List.mem_singleton]
    have hx := po.mem_iff (a := x)
    rw [rest_mem, List.mem_cons] at hx
    constructor
    · intro h
      obtain ⟨h1, h2⟩ := hx.mp (.inr h)
      refine ⟨h1, ?_⟩
      rintro (z | z)
      · exact h2 z
      · subst z; exact n1 h
    · rintro ⟨h1, h2⟩
      rcases hx.mpr ⟨h1, fun z => h2 (.inl z)⟩ with z | z
      · exact absurd (.inr z) h2
      · exact z
theorem ends_back {ns : List Int} {n e : Int} (hn : n ∈ restOf sts.length ns) (h : Ends ring len home start sts (ns ++ [n]) e) : Ends ring len home start sts ns e := by
  obtain ⟨o, z, po, hz, he⟩ := h
  refine ⟨n :: o, z, ?_, by rw [List.append_assoc] at hz; exact hz, he⟩
  have nd1 := rest_nodup sts.length (ns ++ [n])
  have nd : (n :: o).Nodup := by
    rw [List.nodup_cons]
    refine ⟨fun m => ?_, po.nodup_iff.mpr nd1⟩
    have := rest_mem.mp (po.mem_iff.mp m)
    exact this.2 (by simp)
  refine (List.perm_ext_iff_of_nodup nd (rest_nodup _ _)).mpr fun x => ?_
  rw [List.mem_cons, po.mem_iff, rest_mem, rest_mem, List.mem_append, List.mem_singleton]
  constructor
  · rintro (h | ⟨h1, h2⟩)
    · subst h; exact rest_mem.mp hn
    · exact ⟨h1, fun z => h2 (.inl z)⟩
  · rintro ⟨h1, h2⟩
    by_cases c : x = n
    · exact .inl c
    · exact .inr ⟨h1, by rintro (z | z); exact h2 z; exact c z⟩
/-- the least end goes on: some stop keeps it, none lessens it -/
theorem least_step {ns : List Int} {m : Int} (h : leastOf ring len sts home start ns = some m) (ne : restOf sts.length ns ≠ []) :
    (∃ n ∈ restOf sts.length ns, leastOf ring len sts home start (ns ++ [n]) = some m) ∧ ∀ n ∈ restOf sts.length ns, ∀ e, leastOf ring len sts home start (ns ++ [n]) = some e → m ≤ e := by
  have h0 := least_is ring len home start sts (ns := ns)
  rw [h] at h0
  obtain ⟨h1, h2⟩ := h0
  have ge : ∀ n ∈ restOf sts.length ns, ∀ e, leastOf ring len sts home start (ns ++ [n]) = some e → m ≤ e := by
    intro n hn e he
    have k := least_is ring len home start sts (ns := ns ++ [n])
    rw [he] at k
    exact h2 e (ends_back ring len home start sts hn k.1)
  refine ⟨?_, ge⟩
  obtain ⟨n, hn, hm⟩ := ends_step ring len home start sts h1 ne
  refine ⟨n, hn, ?_⟩
  have k := least_is ring len home start sts (ns := ns ++ [n])
  cases e : leastOf ring len sts home start (ns ++ [n]) with
  | none => rw [e] at k; exact absurd hm (k m)
  | some e' =>
    rw [e] at k
    have a := ge n hn e' e
    have b := k.2 m hm
    congr 1
    omega
end

/-! ### tours, as the program finds them -/
theorem ordOk_nil (m : Nat) : ordOk [] m := ⟨fun x hx => (by cases hx), List.nodup_nil⟩
theorem ordOk_snoc {os : List Int} {m : Nat} {n : Int} (ok : ordOk os m) (h : n ∈ restOf m os) : ordOk (os ++ [n]) m := by
  obtain ⟨h1, h2⟩ := rest_mem.mp h
  refine ⟨fun x hx => ?_, ?_⟩
  · rcases List.mem_append.mp hx with hx | hx
    · exact ok.1 x hx
    · rw [List.mem_singleton.mp hx]; exact h1
  · rw [List.nodup_append]
    exact ⟨ok.2, by simp, fun a ha b hb e => h2 (by rw [List.mem_singleton.mp hb] at e; exact e ▸ ha)⟩
theorem ordOk_len {os : List Int} {m : Nat} (ok : ordOk os m) : os.length ≤ m := by
  have h := (rest_perm ok).length_eq
  rw [List.length_append, List.length_map, List.length_range] at h
  omega
def allOf (m : Nat) : List Int := (List.range m).map fun i : Nat => (i : Int)
theorem rg_all (m : Nat) : rgV 0 (m : Int) = (allOf m).map V.int := by
  unfold rgV allOf
  have e : ((m : Int) - 0).toNat = m := by omega
  rw [e, List.map_map]
  refine List.map_congr_left fun i _ => ?_
  show V.int (0 + (i : Int)) = V.int (i : Int)
  rw [Int.zero_add]
theorem all_len (m : Nat) : (allOf m).length = m := by unfold allOf; rw [List.length_map, List.length_range]
theorem mem_all {m : Nat} {n : Int} : n ∈ allOf m ↔ 0 ≤ n ∧ n < m := by
  unfold allOf
  rw [List.mem_map]
  constructor
  · rintro ⟨i, hi, rfl⟩
    have := List.mem_range.mp hi
    omega
  · rintro ⟨h1, h2⟩
    exact ⟨n.toNat, List.mem_range.mpr (by omega), by omega⟩
theorem all_rise (m : Nat) : (allOf m).Pairwise (· < ·) := by
  unfold allOf
  rw [List.pairwise_map]
  exact List.pairwise_lt_range.imp fun h => by omega
theorem rest_all (m : Nat) : restOf m [] = allOf m := by
  unfold restOf allOf
  rw [List.filter_eq_self]
  intro a _
  rfl
section
variable (ring : Bool) (len home start : Int) (sts : List Stp)
def keepsOf (e : Int) (os : List Int) : List Int := (restOf sts.length os).filter fun n => decide (leastOf ring len sts home start (os ++ [n]) = some e)
def nextOf (e : Int) (os : List Int) : Int := (minL (keepsOf ring len home start sts e os)).getD 0
def bestGo (e : Int) : Nat → List Int
  | 0 => []
  | k + 1 => bestGo e k ++ [nextOf ring len home start sts e (bestGo e k)]
def bestOf : Option (List Int) := (leastOf ring len sts home start []).map fun e => bestGo ring len home start sts e sts.length
theorem mem_keeps {e : Int} {os : List Int} {n : Int} : n ∈ keepsOf ring len home start sts e os ↔ n ∈ restOf sts.length os ∧ leastOf ring len sts home start (os ++ [n]) = some e := by
  unfold keepsOf
  rw [List.mem_filter, decide_eq_true_iff]
theorem next_ok {e : Int} {os : List Int} (ok : ordOk os sts.length) (h : leastOf ring len sts home start os = some e) (lt : os.length < sts.length) :
    nextOf ring len home start sts e os ∈ keepsOf ring len home start sts e os ∧ ∀ n ∈ keepsOf ring len home start sts e os, nextOf ring len home start sts e os ≤ n := by
  have ne : restOf sts.length os ≠ [] := fun z => by have := (rest_nil ok).mp z; omega
  obtain ⟨⟨n, hn, hm⟩, _⟩ := least_step ring len home start sts h ne
  have km := (mem_keeps ring len home start sts).mpr ⟨hn, hm⟩
  unfold nextOf
  cases c : minL (keepsOf ring len home start sts e os) with
  | none => rw [minL_none.mp c] at km; cases km
  | some m => exact minL_is.minL_mem c
theorem best_go {e : Int} (h : leastOf ring len sts home start [] = some e) : ∀ k, k ≤ sts.length → ordOk (bestGo ring len home start sts e k) sts.length ∧ (bestGo ring len home start sts e k).length = k ∧ leastOf ring len sts home start (bestGo ring len home start sts e k) = some e
  | 0, _ => ⟨ordOk_nil _, rfl, h⟩
  | k + 1, hk => by
    obtain ⟨a, b, c⟩ := best_go h k (by omega)
    obtain ⟨d, _⟩ := next_ok ring len home start sts a c (by omega)
    obtain ⟨d1, d2⟩ := (mem_keeps ring len home start sts).mp d
    exact ⟨ordOk_snoc a d1, by rw [bestGo, List.length_append, b]; rfl, d2⟩
theorem least_full {os : List Int} (ok : ordOk os sts.length) (hl : os.length = sts.length) : leastOf ring len sts home start os = (behindOf ring len sts home start os).map fun z => z.2 + apartOf ring len z.1 home := by
  unfold leastOf
  rw [if_pos ((rest_nil ok).mpr hl)]
theorem best_none (h : leastOf ring len sts home start [] = none) : bestOf ring len home start sts = none := by unfold bestOf; rw [h]; rfl
theorem best_some {e : Int} (h : leastOf ring len sts home start [] = some e) : bestOf ring len home start sts = some (bestGo ring len home start sts e sts.length) := by unfold bestOf; rw [h]; rfl
/-- the best tour is one, home at the least end -/
theorem best_is {os : List Int} (h : bestOf ring len home start sts = some os) : ∃ e z, leastOf ring len sts home start [] = some e ∧ os = bestGo ring len home start sts e sts.length ∧ ordOk os sts.length ∧ os.length = sts.length ∧ behindOf ring len sts home start os = some z ∧ e = z.2 + apartOf ring len z.1 home := by
  cases c : leastOf ring len sts home start [] with
  | none => rw [best_none ring len home start sts c] at h; cases h
  | some e =>
    rw [best_some ring len home start sts c] at h
    obtain rfl := Option.some.inj h
    obtain ⟨a, b, d⟩ := best_go ring len home start sts c sts.length (Nat.le_refl _)
    rw [least_full ring len home start sts a b] at d
    obtain ⟨z, hz, he⟩ := Option.map_eq_some_iff.mp d
    exact ⟨e, z, rfl, rfl, a, b, hz, he.symm⟩
/-! #### clashes -/
def subOf (ks : List Int) : List Stp := ks.map (stAt sts)
def hasOf (ks : List Int) : Bool := (leastOf ring len (subOf sts ks) home start []).isSome
def lessOf (ks : List Int) (n : Int) : List Int := ks.filter fun x => decide (x ≠ n)
def dropOf (ks : List Int) (n : Int) : List Int := if hasOf ring len home start sts (lessOf ks n) = true then ks else lessOf ks n
def clashGo : Nat → List Int
  | 0 => allOf sts.length
  | i + 1 => dropOf ring len home start sts (clashGo i) ((sts.length : Int) - 1 - (i : Int))
def clashOf : Option (List Int) := if hasOf ring len home start sts (allOf sts.length) = true then none else some (clashGo ring len home start sts sts.length)
theorem clash_sub : ∀ i, (clashGo ring len home start sts i).Sublist (allOf sts.length)
  | 0 => List.Sublist.refl _
  | i + 1 => by
    have ih := clash_sub i
    unfold clashGo dropOf
    split
    · exact ih
    · exact List.filter_sublist.trans ih
theorem sub_all : subOf sts (allOf sts.length) = sts := by
  refine List.ext_getElem? fun i => ?_
  show ((allOf sts.length).map (stAt sts))[i]? = sts[i]?
  rw [List.getElem?_map]
  unfold allOf
  rw [List.getElem?_map]
  by_cases c : i < sts.length
  · rw [List.getElem?_range c]
    exact (stAt_eq (n := (i : Int)) (by omega) (by omega)).symm
  · rw [List.getElem?_eq_none (by rw [List.length_range]; omega), List.getElem?_eq_none (by omega)]
    rfl
theorem sub_mem {ks : List Int} (h : ∀ n ∈ ks, 0 ≤ n ∧ n < sts.length) : ∀ s ∈ subOf sts ks, s ∈ sts := by
  intro s hs
  obtain ⟨n, hn, rfl⟩ := List.mem_map.mp hs
  obtain ⟨h0, h1⟩ := h n hn
  exact stAt_mem h0 h1
theorem clash_none (h : clashOf ring len home start sts = none) : (leastOf ring len sts home start []).isSome = true := by
  unfold clashOf hasOf at h
  rw [sub_all] at h
  by_cases c : (leastOf ring len sts home start []).isSome = true
  · exact c
  · rw [if_neg c] at h; cases h
theorem clash_of (h : leastOf ring len sts home start [] = none) : clashOf ring len home start sts = some (clashGo ring len home start sts sts.length) := by
  unfold clashOf hasOf
  rw [sub_all, h]
  rfl
theorem clash_not {e : Int} (h : leastOf ring len sts home start [] = some e) : clashOf ring len home start sts = none := by
  unfold clashOf hasOf
  rw [sub_all, h]
  rfl
end
/-- a day that nothing refuses -/
def GoodDay (ring : Bool) (len home start : Int) (sts : List Stp) : Prop := 1 ≤ len ∧ len ≤ 1000000000 ∧ onRoad ring len home ∧ isTime start ∧ (∀ s ∈ sts, goodStop ring len s) ∧ sts.length ≤ 7
theorem GoodDay.flt {ring : Bool} {len home start : Int} {sts : List Stp} (g : GoodDay ring len home start sts) : dayFlt (wordOf ring) len home start sts = none := good_flt g.1 g.2.1 g.2.2.1 g.2.2.2.1 g.2.2.2.2.2 g.2.2.2.2.1
theorem GoodDay.sub {ring : Bool} {len home start : Int} {sts : List Stp} (g : GoodDay ring len home start sts) {ks : List Int} (h : ∀ n ∈ ks, 0 ≤ n ∧ n < sts.length) (h7 : ks.length ≤ 7) : GoodDay ring len home start (subOf sts ks) :=
  ⟨g.1, g.2.1, g.2.2.1, g.2.2.2.1, fun s hs => g.2.2.2.2.1 s (sub_mem sts h s hs), by unfold subOf; rw [List.length_map]; exact h7⟩
theorem scal_opt (o : Option Int) (e : Int) : scal (optV o) (.int e) = true := by cases o <;> rfl
theorem dec_opt (o : Option Int) (e : Int) : decide (optV o = V.int e) = decide (o = some e) := by
  refine dec_eq ?_
  cases o with
  | none => exact ⟨fun h => (by cases h), fun h => (by cases h)⟩
  | some m => exact ⟨fun h => (by rw [V.int.inj h]), fun h => (by rw [Option.some.inj h]; rfl)⟩
theorem notnone_opt (o : Option Int) : (!decide (optV o = V.non)) = o.isSome := by
  cases o with
  | none => rfl
  | some m => rfl
theorem sorted_all {os ns : List Int} {m : Nat} (ok : ordOk os m) (hl : os.length = m) (pm : ns.Perm os) (le : ns.Pairwise (· ≤ ·)) : ns = allOf m := by
  have h := rest_perm ok
  rw [(rest_nil ok).mpr hl, List.append_nil] at h
  exact perm_rise (pm.trans h) le (all_rise m)
section
variable (ring : Bool) (len home start : Int) (sts : List Stp)
theorem go_step (i : Nat) {n : Int} (h : n ≠ (sts.length : Int) - 1 - (i : Int)) : n ∈ clashGo ring len home start sts (i + 1) ↔ n ∈ clashGo ring len home start sts i := by
  show n ∈ dropOf ring len home start sts (clashGo ring len home start sts i) ((sts.length : Int) - 1 - (i : Int)) ↔ _
  unfold dropOf
  split
  · exact Iff.rfl
  · unfold lessOf
    rw [List.mem_filter, decide_eq_true_iff]
    exact ⟨fun z => z.1, fun z => ⟨z, h⟩⟩
theorem go_from (i : Nat) {n : Int} (h : (sts.length : Int) - (i : Int) ≤ n) : ∀ d, n ∈ clashGo ring len home start sts (i + d) ↔ n ∈ clashGo ring len home start sts i
  | 0 => Iff.rfl
  | d + 1 => (go_step ring len home start sts (i + d) (by omega)).trans (go_from i h d)
theorem go_small {n : Int} (h0 : 0 ≤ n) : ∀ i : Nat, n < (sts.length : Int) - (i : Int) → n ∈ clashGo ring len home start sts i
  | 0, h => mem_all.mpr ⟨h0, by omega⟩
  | i + 1, h => (go_step ring len home start sts i (by omega)).mpr (go_small h0 i (by omega))
/-- the stops that are left when it is this one's turn -/
def othersAt (k : Int) : List Int := (allOf sts.length).filter fun n => decide (n < k ∨ (k < n ∧ n ∈ clashGo ring len home start sts sts.length))
theorem less_is {i : Nat} (hi : i < sts.length) : lessOf (clashGo ring len home start sts i) ((sts.length : Int) - 1 - (i : Int)) = othersAt ring len home start sts ((sts.length : Int) - 1 - (i : Int)) := by
  have sub := clash_sub ring len home start sts i
  refine rise_eq (((all_rise _).sublist sub).sublist List.filter_sublist) ((all_rise _).sublist List.filter_sublist) fun x => ?_
  unfold lessOf othersAt
  rw [List.mem_filter, List.mem_filter, decide_eq_true_iff, decide_eq_true_iff]
  have fr := fun h => go_from ring len home start sts i (n := x) h (sts.length - i)
  rw [show i + (sts.length - i) = sts.length by omega] at fr
  constructor
  · rintro ⟨h1, h2⟩
    have h3 := sub.subset h1
    refine ⟨h3, ?_⟩
    by_cases c : x < (sts.length : Int) - 1 - (i : Int)
    · exact .inl c
    · exact .inr ⟨by omega, (fr (by omega)).mpr h1⟩
  · rintro ⟨h1, h2⟩
    have h3 := mem_all.mp h1
    rcases h2 with c | ⟨c1, c2⟩
    · exact ⟨go_small ring len home start sts h3.1 i (by omega), by omega⟩
    · exact ⟨(fr (by omega)).mp c2, by omega⟩
/-- a stop is told just where the others that are still kept have a tour -/
theorem clash_at {k : Int} (k0 : 0 ≤ k) (k1 : k < sts.length) : k ∈ clashGo ring len home start sts sts.length ↔ hasOf ring len home start sts (othersAt ring len home start sts k) = true := by
  obtain ⟨i, hi⟩ : ∃ i : Nat, (i : Int) = (sts.length : Int) - 1 - k := ⟨((sts.length : Int) - 1 - k).toNat, by omega⟩
  have ek : k = (sts.length : Int) - 1 - (i : Int) := by omega
  have il : i < sts.length := by omega
  have fr := go_from ring len home start sts (i + 1) (n := k) (by omega) (sts.length - (i + 1))
  rw [show i + 1 + (sts.length - (i + 1)) = sts.length by omega] at fr
  rw [fr, ek, ← less_is ring len home start sts il]
  show _ ∈ dropOf ring len home start sts (clashGo ring len home start sts i) ((sts.length : Int) - 1 - (i : Int)) ↔ _
  have m0 := go_small ring len home start sts k0 i (by omega)
  rw [ek] at m0
  unfold dropOf
  by_cases c : hasOf ring len home start sts (lessOf (clashGo ring len home start sts i) ((sts.length : Int) - 1 - (i : Int))) = true
  · rw [if_pos c]
    exact ⟨fun _ => c, fun _ => m0⟩
  · rw [if_neg c]
    refine ⟨fun z => ?_, fun z => absurd z c⟩
    unfold lessOf at z
    have := (List.mem_filter.mp z).2
    simp at this
theorem go_has (h : hasOf ring len home start sts (allOf sts.length) = false) : ∀ i, hasOf ring len home start sts (clashGo ring len home start sts i) = false
  | 0 => h
  | i + 1 => by
    have ih := go_has h i
    show hasOf ring len home start sts (dropOf ring len home start sts (clashGo ring len home start sts i) ((sts.length : Int) - 1 - (i : Int))) = false
    unfold dropOf
    split
    · exact ih
    · rename_i c
      exact Bool.not_eq_true _ ▸ c
theorem least_empty (h : 0 < len) : leastOf ring len [] home start [] = some start := by
  unfold leastOf
  rw [if_pos (by rfl)]
  show some (start + apartOf ring len home home) = some start
  rw [apart_self h, Int.add_zero]
/-- what is told of a clash -/
theorem clash_is (h : 0 < len) {ks : List Int} (hk : clashOf ring len home start sts = some ks) : ks = clashGo ring len home start sts sts.length ∧ hasOf ring len home start sts ks = false ∧ ks.Sublist (allOf sts.length) ∧ ks ≠ [] ∧ leastOf ring len sts home start [] = none := by
  unfold clashOf at hk
  by_cases c : hasOf ring len home start sts (allOf sts.length) = true
  · rw [if_pos c] at hk; cases hk
  rw [if_neg c] at hk
  obtain rfl := Option.some.inj hk
  have hf : hasOf ring len home start sts (allOf sts.length) = false := Bool.not_eq_true _ ▸ c
  have g := go_has ring len home start sts hf sts.length
  refine ⟨rfl, g, clash_sub ring len home start sts _, fun z => ?_, ?_⟩
  · rw [z] at g
    unfold hasOf subOf at g
    rw [List.map_nil, least_empty ring len home start h] at g
    cases g
  · unfold hasOf at hf
    rw [sub_all] at hf
    cases e : leastOf ring len sts home start [] with
    | none => rfl
    | some m => rw [e] at hf; cases hf
end

/-! ### all orders, gone through one by one -/
/-- the orders of k of m stops, as the law makes them -/
def ordersAt (m : Nat) : Nat → List (List Int)
  | 0 => [[]]
  | k + 1 => (ordersAt m k).flatMap fun o => (restOf m o).map fun n => o ++ [n]
/-- all that goes on with j more behind o -/
def deep (m : Nat) : Nat → List Int → List (List Int)
  | 0, o => [o]
  | j + 1, o => (restOf m o).flatMap fun n => deep m j (o ++ [n])
theorem orders_deep (m j : Nat) : ∀ k, (ordersAt m k).flatMap (deep m j) = (ordersAt m 0).flatMap (deep m (k + j))
  | 0 => by rw [Nat.zero_add]
  | k + 1 => by
    have ih := orders_deep m (j + 1) k
    rw [show k + 1 + j = k + (j + 1) by omega, ← ih]
    show ((ordersAt m k).flatMap fun o => (restOf m o).map fun n => o ++ [n]).flatMap (deep m j) = _
    rw [List.flatMap_assoc]
    congr 1
    funext o
    rw [List.flatMap_map]
    rfl
theorem orders_all (m : Nat) : ordersAt m m = deep m m [] := by
  have h := orders_deep m 0 m
  have e1 : (ordersAt m m).flatMap (deep m 0) = ordersAt m m := by
    have : deep m 0 = fun o => [o] := by funext o; rfl
    rw [this, List.flatMap_singleton']
  rw [e1] at h
  rw [h]
  show deep m (m + 0) [] ++ [] = _
  rw [List.append_nil, Nat.add_zero]
theorem orders_len {m : Nat} (hm : m ≤ 4) : ∀ k, (ordersAt m k).length ≤ 4 ^ k
  | 0 => Nat.le_refl _
  | k + 1 => by
    have ih := orders_len hm k
    have gen : ∀ l : List (List Int), (l.flatMap fun o => (restOf m o).map fun n => o ++ [n]).length ≤ 4 * l.length := by
      intro l
      induction l with
      | nil => exact Nat.le_refl _
      | cons o r ih2 =>
        rw [List.flatMap_cons, List.length_append, List.length_map, List.length_cons]
        have := rest_len m o
        omega
    have h := gen (ordersAt m k)
    show ((ordersAt m k).flatMap fun o => (restOf m o).map fun n => o ++ [n]).length ≤ 4 ^ (k + 1)
    rw [Nat.pow_succ]
    omega
theorem orders_ok {m : Nat} : ∀ k, ∀ o ∈ ordersAt m k, ordOk o m ∧ o.length = k
  | 0, o, h => by
    rw [List.mem_singleton.mp h]
    exact ⟨ordOk_nil m, rfl⟩
  | k + 1, o, h => by
    obtain ⟨p, hp, ho⟩ := List.mem_flatMap.mp h
    obtain ⟨n, hn, rfl⟩ := List.mem_map.mp ho
    obtain ⟨a, b⟩ := orders_ok k p hp
    exact ⟨ordOk_snoc a hn, by rw [List.length_append, b]; rfl⟩
section
variable (ring : Bool) (len home start : Int) (sts : List Stp)
def endsOf (o : List Int) : Option Int := (behindOf ring len sts home start o).map fun z => z.2 + apartOf ring len z.1 home
theorem ends_ge {e : Int} {x : List Int} (hx : endsOf ring len home start sts x = some e) : ∀ (j : Nat) (o : List Int), ordOk o sts.length → o.length + j = sts.length → x ∈ deep sts.length j o → ∃ l, leastOf ring len sts home start o = some l ∧ l ≤ e
  | 0, o, ok, hl, hm => by
    obtain rfl := List.mem_singleton.mp hm
    exact ⟨e, (least_full ring len home start sts ok (by omega)).trans hx, Int.le_refl _⟩
  | j + 1, o, ok, hl, hm => by
    obtain ⟨n, hn, hd⟩ := List.mem_flatMap.mp hm
    obtain ⟨l', h1, h2⟩ := ends_ge hx j (o ++ [n]) (ordOk_snoc ok hn) (by rw [List.length_append, List.length_singleton]; omega) hd
    have k := least_is ring len home start sts (ns := o ++ [n])
    rw [h1] at k
    have b := ends_back ring len home start sts hn k.1
    have g := least_is ring len home start sts (ns := o)
    cases c : leastOf ring len sts home start o with
    | none => rw [c] at g; exact absurd b (g l')
    | some l =>
      rw [c] at g
      have := g.2 l' b
      exact ⟨l, rfl, by omega⟩
def Later (e : Int) (xs : List (List Int)) : Prop := ∀ x ∈ xs, ∀ e', endsOf ring len home start sts x = some e' → e < e'
def NotEarlier (e : Int) (xs : List (List Int)) : Prop := ∀ x ∈ xs, ∀ e', endsOf ring len home start sts x = some e' → e ≤ e'
theorem rise_split {rs : List Int} (ri : rs.Pairwise (· < ·)) {n : Int} (m : n ∈ rs) : ∃ a b, rs = a ++ n :: b ∧ ∀ x ∈ a, x < n := by
  obtain ⟨a, b, rfl⟩ := List.append_of_mem m
  refine ⟨a, b, rfl, fun x hx => ?_⟩
  exact (List.pairwise_append.mp ri).2.2 x hx n (List.mem_cons_self ..)
theorem best_in {e : Int} (h : leastOf ring len sts home start [] = some e) : ∀ j k, k + j = sts.length → ∃ a b, deep sts.length j (bestGo ring len home start sts e k) = a ++ bestGo ring len home start sts e sts.length :: b ∧ Later ring len home start sts e a ∧ NotEarlier ring len home start sts e b
  | 0, k, hk => by
    rw [Nat.add_zero] at hk
    subst hk
    exact ⟨[], [], rfl, fun x hx => (by cases hx), fun x hx => (by cases hx)⟩
  | j + 1, k, hk => by
    obtain ⟨ok, hl, hle⟩ := best_go ring len home start sts h k (by omega)
    obtain ⟨nk, nl⟩ := next_ok ring len home start sts ok hle (by omega)
    obtain ⟨a, b, h1, h2, h3⟩ := best_in h j (k + 1) (by omega)
    obtain ⟨nr, _⟩ := (mem_keeps ring len home start sts).mp nk
    obtain ⟨ra, rb, hs, hlt⟩ := rise_split (rest_rise sts.length (bestGo ring len home start sts e k)) nr
    have ne : restOf sts.length (bestGo ring len home start sts e k) ≠ [] := fun z => by rw [z] at nr; cases nr
    have ge := (least_step ring len home start sts hle ne).2
    have mr : ∀ n ∈ ra ++ rb, n ∈ restOf sts.length (bestGo ring len home start sts e k) := fun n hn => by
      rw [hs]
      rcases List.mem_append.mp hn with z | z
      · exact List.mem_append_left _ z
      · exact List.mem_append_right _ (List.mem_cons_of_mem _ z)
    have big : ∀ n ∈ restOf sts.length (bestGo ring len home start sts e k), ∀ x ∈ deep sts.length j (bestGo ring len home start sts e k ++ [n]), ∀ e', endsOf ring len home start sts x = some e' → ∃ l, leastOf ring len sts home start (bestGo ring len home start sts e k ++ [n]) = some l ∧ l ≤ e' ∧ e ≤ l := fun n hn x hx e' he => by
      obtain ⟨l, g1, g2⟩ := ends_ge ring len home start sts he j _ (ordOk_snoc ok hn) (by rw [List.length_append, List.length_singleton]; omega) hx
      exact ⟨l, g1, g2, ge n hn l g1⟩
    refine ⟨ra.flatMap (fun n => deep sts.length j (bestGo ring len home start sts e k ++ [n])) ++ a, b ++ rb.flatMap (fun n => deep sts.length j (bestGo ring len home start sts e k ++ [n])), ?_, ?_, ?_⟩
    · show (restOf sts.length (bestGo ring len home start sts e k)).flatMap (fun n => deep sts.length j (bestGo ring len home start sts e k ++ [n])) = _
      rw [hs, List.flatMap_append, List.flatMap_cons]
      have e1 : deep sts.length j (bestGo ring len home start sts e k ++ [nextOf ring len home start sts e (bestGo ring len home start sts e k)]) = a ++ bestGo ring len home start sts e sts.length :: b := h1
      rw [e1]
      simp only [List.append_assoc, List.cons_append]
    · intro x hx e' he
      rcases List.mem_append.mp hx with hx | hx
      · obtain ⟨n, hn, hd⟩ := List.mem_flatMap.mp hx
        have nr' := mr n (List.mem_append_left _ hn)
        obtain ⟨l, g1, g2, g3⟩ := big n nr' x hd e' he
        have lt := hlt n hn
        by_cases c : l = e
        · subst c
          have := nl n ((mem_keeps ring len home start sts).mpr ⟨nr', g1⟩)
          omega
        · omega
      · exact h2 x hx e' he
    · intro x hx e' he
      rcases List.mem_append.mp hx with hx | hx
      · exact h3 x hx e' he
      · obtain ⟨n, hn, hd⟩ := List.mem_flatMap.mp hx
        obtain ⟨l, g1, g2, g3⟩ := big n (mr n (List.mem_append_right _ hn)) x hd e' he
        omega
/-- the law's own search -/
def stepF (s : Option (List Int × Int)) (x : List Int) : Option (List Int × Int) := match endsOf ring len home start sts x with
  | none => s
  | some e => match s with
    | none => some (x, e)
    | some (f, d) => if e < d then some (x, e) else some (f, d)
def firstOf : Option (List Int × Int) := (ordersAt sts.length sts.length).foldl (stepF ring len home start sts) none
theorem fold_later {e : Int} : ∀ (xs : List (List Int)), Later ring len home start sts e xs → ∀ s : Option (List Int × Int), (∀ p, s = some p → e < p.2) → ∀ p, xs.foldl (stepF ring len home start sts) s = some p → e < p.2
  | [], _, s, hs, p, h => hs p h
  | x :: r, hl, s, hs, p, h => by
    refine fold_later r (fun y hy => hl y (List.mem_cons_of_mem _ hy)) (stepF ring len home start sts s x) (fun q hq => ?_) p h
    unfold stepF at hq
    cases c : endsOf ring len home start sts x with
    | none => rw [c] at hq; exact hs q hq
    | some e' =>
      have lt := hl x (List.mem_cons_self ..) e' c
      rw [c] at hq
      cases s with
      | none =>
        obtain rfl := Option.some.inj hq
        exact lt
      | some fd =>
        have hq2 : (if e' < fd.2 then some (x, e') else some (fd.1, fd.2)) = some q := hq
        by_cases c2 : e' < fd.2
        · rw [if_pos c2] at hq2
          obtain rfl := Option.some.inj hq2
          exact lt
        · rw [if_neg c2] at hq2
          obtain rfl := Option.some.inj hq2
          exact hs fd rfl
theorem fold_keep {e : Int} {f : List Int} : ∀ (xs : List (List Int)), NotEarlier ring len home start sts e xs → xs.foldl (stepF ring len home start sts) (some (f, e)) = some (f, e)
  | [], _ => rfl
  | x :: r, h => by
    have st : stepF ring len home start sts (some (f, e)) x = some (f, e) := by
      unfold stepF
      cases c : endsOf ring len home start sts x with
      | none => rfl
      | some e' =>
        have := h x (List.mem_cons_self ..) e' c
        show (if e' < e then some (x, e') else some (f, e)) = _
        rw [if_neg (by omega)]
    rw [List.foldl_cons, st]
    exact fold_keep r fun y hy => h y (List.mem_cons_of_mem _ hy)
theorem first_some {e : Int} (h : leastOf ring len sts home start [] = some e) : firstOf ring len home start sts = some (bestGo ring len home start sts e sts.length, e) := by
  obtain ⟨a, b, h1, h2, h3⟩ := best_in ring len home start sts h sts.length 0 (by omega)
  have h1' : deep sts.length sts.length [] = a ++ bestGo ring len home start sts e sts.length :: b := h1
  obtain ⟨ok, hl, hle⟩ := best_go ring len home start sts h sts.length (Nat.le_refl _)
  have en : endsOf ring len home start sts (bestGo ring len home start sts e sts.length) = some e := (least_full ring len home start sts ok hl).symm.trans hle
  unfold firstOf
  rw [orders_all, h1', List.foldl_append, List.foldl_cons]
  have st : stepF ring len home start sts (a.foldl (stepF ring len home start sts) none) (bestGo ring len home start sts e sts.length) = some (bestGo ring len home start sts e sts.length, e) := by
    have fl := fold_later ring len home start sts a h2 none (fun _ z => (by cases z))
    generalize a.foldl (stepF ring len home start sts) none = s0 at fl ⊢
    unfold stepF
    rw [en]
    cases s0 with
    | none => rfl
    | some p =>
      have lt := fl p rfl
      show (if e < p.2 then some (bestGo ring len home start sts e sts.length, e) else some (p.1, p.2)) = _
      rw [if_pos lt]
  rw [st]
  exact fold_keep ring len home start sts b h3
theorem first_none (h : leastOf ring len sts home start [] = none) : firstOf ring len home start sts = none := by
  unfold firstOf
  rw [orders_all]
  have all : ∀ x ∈ deep sts.length sts.length [], endsOf ring len home start sts x = none := by
    intro x hx
    cases c : endsOf ring len home start sts x with
    | none => rfl
    | some e =>
      obtain ⟨l, g, _⟩ := ends_ge ring len home start sts c sts.length [] (ordOk_nil _) (by rw [List.length_nil, Nat.zero_add]) hx
      rw [h] at g
      cases g
  generalize deep sts.length sts.length [] = xs at all
  induction xs with
  | nil => rfl
  | cons x r ih =>
    have st : stepF ring len home start sts none x = none := by unfold stepF; rw [all x (List.mem_cons_self ..)]
    rw [List.foldl_cons, st]
    exact ih fun y hy => all y (List.mem_cons_of_mem _ hy)
theorem first_is : firstOf ring len home start sts = (leastOf ring len sts home start []).map fun e => (bestGo ring len home start sts e sts.length, e) := by
  cases c : leastOf ring len sts home start [] with
  | none => exact first_none ring len home start sts c
  | some e => exact first_some ring len home start sts c
end

theorem StopsR.take {K : PySem.W.Frag} {H : Hp} : ∀ {ps : List Addr} {sts : List Stp} (k : Nat), StopsR K H ps sts → StopsR K H (ps.take k) (sts.take k)
  | _, _, 0, _ => .nil
  | [], [], _ + 1, _ => .nil
  | [], _ :: _, _ + 1, h => by cases h
  | _ :: _, [], _ + 1, h => by cases h
  | _ :: _, _ :: _, k + 1, h => by
    cases h with
    | cons a b => exact .cons a (StopsR.take k b)
theorem StopsR.app {K : PySem.W.Frag} {H : Hp} {qs : List Addr} {sts2 : List Stp} (h2 : StopsR K H qs sts2) : ∀ {ps : List Addr} {sts : List Stp}, StopsR K H ps sts → StopsR K H (ps ++ qs) (sts ++ sts2)
  | [], [], _ => h2
  | [], _ :: _, h => by cases h
  | _ :: _, [], h => by cases h
  | _ :: _, _ :: _, h => by
    cases h with
    | cons a b => exact .cons a (StopsR.app h2 b)
theorem cut_most {xs : List V} (h : 0 < xs.length) : cutV xs none (some (-1 : Int)) = xs.take (xs.length - 1) := by
  unfold cutV
  have e : HT.sIx xs.length xs.length (some (-1 : Int)) = xs.length - 1 := by
    show (if (-1 : Int) < 0 then ((-1 : Int) + (xs.length : Int)).toNat else min (-1 : Int).toNat xs.length) = _
    rw [if_pos (by decide)]
    omega
  rw [e, HT.sIx_none]
  rfl
/-- the last one taken out, the first one put there -/
theorem cut_twin {K : PySem.W.Frag} {H : Hp} {ps : List Addr} {sts : List Stp} (h : StopsR K H ps sts) (h1 : 1 < ps.length) :
    ∃ qs sts2, cutV (ps.map V.ref) none (some (-1 : Int)) ++ cutV (ps.map V.ref) none (some (1 : Int)) = qs.map V.ref ∧ StopsR K H qs sts2 ∧ sts2.length = sts.length ∧ ∀ s ∈ sts2, s ∈ sts := by
  have lm : (ps.map V.ref).length = ps.length := List.length_map _
  have lps := h.len
  refine ⟨ps.take (ps.length - 1) ++ ps.take 1, sts.take (ps.length - 1) ++ sts.take 1, ?_, (h.take 1).app (h.take _), ?_, ?_⟩
  · rw [cut_most (by omega), List.map_append, List.map_take, List.map_take, lm]
    congr 1
    exact cut_to (xs := ps.map V.ref) (k := 1) (by omega)
  · rw [List.length_append, List.length_take, List.length_take]
    omega
  · intro s hs
    rcases List.mem_append.mp hs with m | m <;> exact List.mem_of_mem_take m
def clashD (ks : List Int) : PyData := .tuple [.str "clash", .tuple (ks.map PyData.int)]
theorem strOk_clash2 : PyData.strOk "clash" = true := by decide +kernel
theorem shaped_clash (ks : List Int) : SeqAt.shaped (clashD ks) = true := by
  have h1 := canLay_ints ks
  have h2 := depth_ints ks
  have hs := strOk_clash2
  unfold SeqAt.shaped clashD
  rw [Bool.and_eq_true]
  refine ⟨by simp [PyData.canLay0, PyData.canLayAll0, hs, h1], decide_eq_true ?_⟩
  simp only [PyData.depth, PyData.depthAll]
  omega
theorem clash_dp {K : PySem.W.Frag} {H : Hp} {p c : Addr} {ks : List Int} (hp : SqT K H p [.str "clash", .ref c]) (hc : SqT K H c (ks.map V.int)) : Dp K H (.ref p) (clashD ks) := .tup hp (.cons (.str _) (.cons (.tup hc (ints_all ks)) .nil))
def tourD (os : List Int) (e : Int) : PyData := .tuple [.str "tour", intsD os, .int e]
theorem strOk_tour : PyData.strOk "tour" = true := by decide +kernel
theorem shaped_tour (os : List Int) (e : Int) : SeqAt.shaped (tourD os e) = true := by
  have h1 := canLay_ints os
  have h2 := depth_ints os
  have hs := strOk_tour
  unfold SeqAt.shaped tourD intsD
  rw [Bool.and_eq_true]
  refine ⟨by simp [PyData.canLay0, PyData.canLayAll0, hs, h1], decide_eq_true ?_⟩
  simp only [PyData.depth, PyData.depthAll]
  omega
theorem tour_dp {K : PySem.W.Frag} {H : Hp} {p o : Addr} {os : List Int} {e : Int} (hp : SqT K H p [.str "tour", .ref o, .int e]) (ho : SqL K H o (os.map V.int)) : Dp K H (.ref p) (tourD os e) := .tup hp (.cons (.str _) (.cons (ints_dp ho) (.cons (.int _) .nil)))

/-! ### texts -/
abbrev S (l : List Nat) : Str := ⟨l.toArray⟩
theorem tl_S (l : List Nat) : tl (S l) = l := rfl
theorem S_tl (x : Str) : S (tl x) = x := mk_tl x
theorem S_app (a b : List Nat) : S a ++ S b = S (a ++ b) := ext_tl (by rw [tl_append])
theorem S_len (l : List Nat) : (S l).length = l.length := len_tl (S l)
theorem S_inj {a b : List Nat} (h : S a = S b) : a = b := congrArg tl h
theorem str_S {a b : List Nat} : V.str (S a) = V.str (S b) ↔ a = b := ⟨fun h => S_inj (V.str.inj h), fun h => by rw [h]⟩
def num (n : Int) : List Nat := numL n.toNat
theorem S_num {n : Int} (h : 0 ≤ n) : (Str.ofString (toString n)) = S (num n) := by
  refine ext_tl ?_
  obtain ⟨k, rfl⟩ : ∃ k : Nat, n = k := ⟨n.toNat, by omega⟩
  rw [tl_num]
  rfl
theorem num_digit {n : Int} {c : Nat} (h : c ∈ num n) : 48 ≤ c ∧ c ≤ 57 := by
  have := numL_digits n.toNat c h
  omega
theorem num_ne (n : Int) : num n ≠ [] := numL_ne _
theorem num_len {n : Int} (h0 : 0 ≤ n) (h1 : n < 1000000000000000) : (num n).length ≤ 15 := numL_len (by decide) (by omega)
theorem num_inj {a b : Int} (ha : 0 ≤ a) (hb : 0 ≤ b) (h : num a = num b) : a = b := by
  have := numL_inj h
  omega
theorem numL_head : ∀ n : Nat, 1 ≤ n → ∃ c r, numL n = c :: r ∧ c ≠ 48 := by
  intro n
  induction n using Nat.strongRecOn with
  | _ n ih =>
    intro h1
    by_cases h : n < 10
    · exact ⟨48 + n, [], numL_lt h, by omega⟩
    · obtain ⟨c, r, e, ne⟩ := ih (n / 10) (by omega) (by omega)
      exact ⟨c, r ++ [48 + n % 10], by rw [numL_step (by omega), e]; rfl, ne⟩
theorem num_head {n : Int} {r : List Nat} (h : num n = 48 :: r) : num n = [48] := by
  by_cases c : 1 ≤ n.toNat
  · obtain ⟨d, s, e, ne⟩ := numL_head n.toNat c
    unfold num at h
    rw [e] at h
    exact absurd (List.cons.inj h).1 ne
  · unfold num
    rw [show n.toNat = 0 by omega]
    exact numL_lt (by decide)
theorem num_step {n : Int} (h : 9 < n) : num n = num (n / 10) ++ [48 + (n % 10).toNat] := by
  unfold num
  rw [numL_step (by omega)]
  have e1 : n.toNat / 10 = (n / 10).toNat := by omega
  have e2 : n.toNat % 10 = (n % 10).toNat := by omega
  rw [e1, e2]
theorem num_lt {n : Int} (h0 : 0 ≤ n) (h : n ≤ 9) : num n = [48 + n.toNat] := numL_lt (by omega)
theorem num_int {n : Int} (h0 : 0 ≤ n) (h1 : (num n).length ≤ 4300) : PySem.intText? (S (num n)) = some n := by
  have z := int_num h1
  have e : ((n.toNat : Nat) : Int) = n := by omega
  rw [e, S_num h0] at z
  exact z
/-- the digits' text, sign by sign -/
def figs : List Nat := [48, 49, 50, 51, 52, 53, 54, 55, 56, 57]
theorem figs_is : (Str.ofString "0123456789") = S figs := by decide +kernel
theorem mem_figs {c : Nat} : c ∈ figs ↔ 48 ≤ c ∧ c ≤ 57 := by
  unfold figs
  simp only [List.mem_cons, List.not_mem_nil, or_false]
  omega
/-! #### a slice by steps -/
def pickI {α : Type} (xs : List α) (is : List Nat) : List α := is.filterMap fun i => xs[i]?
theorem Vals.at {xs : List V} {us : List Value} (h : Vals xs us) : ∀ i : Nat, (xs[i]? = none ∧ us[i]? = none) ∨ ∃ x u, xs[i]? = some x ∧ us[i]? = some u ∧ RelV x u := by
  induction h with
  | nil => exact fun i => .inl ⟨by simp, by simp⟩
  | cons a b ih =>
    intro i
    cases i with
    | zero => exact .inr ⟨_, _, rfl, rfl, a⟩
    | succ j => exact ih j
theorem vals_pickI {xs : List V} {us : List Value} (h : Vals xs us) : ∀ is : List Nat, Vals (pickI xs is) (is.filterMap fun i => us[i]?)
  | [] => .nil
  | i :: r => by
    have ih := vals_pickI h r
    unfold pickI at ih ⊢
    rw [List.filterMap_cons, List.filterMap_cons]
    rcases Vals.at h i with ⟨e1, e2⟩ | ⟨x, u, e1, e2, e3⟩
    · rw [e1, e2]; exact ih
    · rw [e1, e2]; exact .cons e3 ih
def stepIx (lo hi : Option Int) (st : Int) (n : Nat) : List Nat := sliceRange (sliceBounds lo hi (some st) n).1 (sliceBounds lo hi (some st) n).2.1 (sliceBounds lo hi (some st) n).2.2
def tStep (K : PySem.W.Frag) (te : TE) (tlo thi : TO) (st : Int) : TE := fun σ H Q => te σ H fun x H1 => tlo σ H1 fun lo H2 => thi σ H2 fun hi H3 => ∃ a xs, x = .ref a ∧ SqL K H3 a xs ∧ (pickI xs (stepIx lo hi st xs.length)).length ≤ sizeLine ∧ ∀ p, H3 p = none → Q (.ref p) (upd H3 p (.lst (pickI xs (stepIx lo hi st xs.length))))
theorem pe_sliceStep {X : Cx} {e : Expr} {lo hi : Option Expr} {te : TE} {tlo thi : TO} {st : Int} {k : Nat} {p1 p2 pos : Pos} (h0 : st ≠ 0) (he : PE X e te) (hlo : PO X lo tlo) (hhi : PO X hi thi) :
    PE X (.Subscript e (.Slice lo hi (some (.Constant (.int st) k p1)) p2) pos) (tStep X.K te tlo thi st) := by
  refine ⟨fun pins0 s0 σ0 H0 Q0 I0 asked => Subscript_ (thn (he.run pins0 s0 σ0 H0 _ I0 asked) ?_)⟩
  rintro v s1 ⟨x, H1, I1, r1, q1⟩
  have hst : PO X (some (.Constant (.int st) k p1)) (tPart (tC (.int st))) := po_some pe_int
  refine wpAny_Slice (thn (hlo.run pins0 s1 σ0 H1 _ I1 q1) ?_)
  rintro vl s2 ⟨l, H2, I2, pl, q2⟩
  refine thn (hhi.run pins0 s2 σ0 H2 _ I2 q2) ?_
  rintro vu s3 ⟨u, H3, I3, pu, a, xs, rfl, hx, hz, wish⟩
  cases r1
  refine thn (hst.run pins0 s3 σ0 H3 (fun o G => o = some st ∧ G = H3) I3 ⟨st, rfl, rfl, rfl⟩) ?_
  rintro vs s4 ⟨o, H4, I4, ps, rfl, rfl⟩
  have J : L2.Inv X pins0 σ0 H4 { s4 with heap := s4.heap.push { cls := .type "slice", data := .fields #[vl, vu, vs] } } := I4.kept (t' := s4.toks) fun _ _ z => Heap.get?_push_of_some _ z
  obtain ⟨its, rv, isL, less⟩ := J.list hx
  have long := rv.length
  show wpAny (model X.prog X.w) X.A (subscriptTail e (.Slice lo hi (some (.Constant (.int st) k p1)) p2) (.ref a) (.ref s4.heap.objs.size)) _ _ _
  refine tail_any (ops := [.ref a, .ref s4.heap.objs.size]) isL.isList.typeIs PySem.slot_list_getitem.lookup ?_ (by with_unfolding_all rfl)
  refine wpAny_getItem_list_slice isL.isList (Heap.IsSliceOf.new _ vl vu vs) pl pu ps (fun z => h0 (Option.some.inj z)) ?_ (by rw [List.size_toArray]; omega)
  have made : (slicePick its.toArray l u (some st)) = ((stepIx l u st xs.length).filterMap fun i => its[i]?).toArray := by
    unfold slicePick stepIx
    rw [List.size_toArray, ← long]
    congr 2
    funext i
    exact List.getElem?_toArray
  rw [made]
  refine ⟨.ref _, _, J.laid (t' := s4.toks) (o := .lst (pickI xs (stepIx l u st xs.length))) (fun _ _ z => Heap.get?_push_of_some _ z) (Nat.le_refl _) ?_, rfl, wish _ (J.hok.fresh (Nat.le_refl _))⟩
  exact ⟨hz, _, 0, vals_pickI rv _, Heap.get?_push_size _ rfl⟩
theorem pick_ev2 {α : Type} (a b : α) : pickI [a, b] (stepIx none none 2 2) = [a] := by
  rw [show stepIx none none 2 2 = [0] by decide +kernel]; rfl
theorem pick_od2 {α : Type} (a b : α) : pickI [a, b] (stepIx (some 1) none 2 2) = [b] := by
  rw [show stepIx (some 1) none 2 2 = [1] by decide +kernel]; rfl
theorem pick_ev4 {α : Type} (a b c d : α) : pickI [a, b, c, d] (stepIx none none 2 4) = [a, c] := by
  rw [show stepIx none none 2 4 = [0, 2] by decide +kernel]; rfl
theorem pick_od4 {α : Type} (a b c d : α) : pickI [a, b, c, d] (stepIx (some 1) none 2 4) = [b, d] := by
  rw [show stepIx (some 1) none 2 4 = [1, 3] by decide +kernel]; rfl
theorem pick_ev8 {α : Type} (a b c d e f g h : α) : pickI [a, b, c, d, e, f, g, h] (stepIx none none 2 8) = [a, c, e, g] := by
  rw [show stepIx none none 2 8 = [0, 2, 4, 6] by decide +kernel]; rfl
theorem pick_od8 {α : Type} (a b c d e f g h : α) : pickI [a, b, c, d, e, f, g, h] (stepIx (some 1) none 2 8) = [b, d, f, h] := by
  rw [show stepIx (some 1) none 2 8 = [1, 3, 5, 7] by decide +kernel]; rfl
/-! #### a tuple of texts that the top has left -/
def TupC (K : PySem.W.Frag) (a : Addr) (ys : List Str) : Prop := ∃ (o : Obj) (its : Array Value) (n : Nat), K.lookup a = some o ∧ o.cls = .type "tuple" ∧ o.data = .seq its n ∧ its.size ≤ sizeLine ∧ Vals (ys.map V.str) its.toList
def strVals : List Str → List Value → Bool
  | [], [] => true
  | y :: r, .str z _ :: q => decide (z = y) && strVals r q
  | _, _ => false
theorem strVals_ok : ∀ {ys : List Str} {us : List Value}, strVals ys us = true → Vals (ys.map V.str) us
  | [], [], _ => .nil
  | y :: r, .str z t :: q, h => by
    obtain ⟨h1, h2⟩ := He.ba (show (decide (z = y) && strVals r q) = true from h)
    rw [of_decide_eq_true h1]
    exact .cons ⟨t, rfl⟩ (strVals_ok h2)
def tupCB (K : PySem.W.Frag) (a : Addr) (ys : List Str) : Bool := match K.lookup a with
  | some o => decide (o.cls = .type "tuple") && (match o.data with
    | .seq its _ => decide (its.size ≤ 64) && strVals ys its.toList
    | _ => false)
  | none => false
theorem tupCB_ok {K : PySem.W.Frag} {a : Addr} {ys : List Str} (h : tupCB K a ys = true) : TupC K a ys := by
  unfold tupCB at h
  cases e : K.lookup a with
  | none => rw [e] at h; cases h
  | some o =>
    rw [e] at h
    obtain ⟨h1, h2⟩ := He.ba h
    cases d : o.data with
    | seq its n =>
      rw [d] at h2
      obtain ⟨h3, h4⟩ := He.ba h2
      refine ⟨o, its, n, e, of_decide_eq_true h1, d, ?_, strVals_ok h4⟩
      have := of_decide_eq_true h3
      rw [sizeLine_eq]
      omega
    | _ => rw [d] at h2; cases h2
theorem TupC.sq {K : PySem.W.Frag} {a : Addr} {ys : List Str} {H : Hp} (h : TupC K a ys) : SqT K H a (ys.map V.str) := .inr h
/-! #### the rows of a day -/
theorem ends_ln (l : List Nat) : Txt.endswith (S l) (Str.ofString "\n") = decide (l.getLast? = some 10) := by
  have e : (Str.ofString "\n") = S [10] := by decide +kernel
  rw [e]
  unfold Txt.endswith
  rw [PySem.StrLaws.subAt_eq, S_len, S_len]
  show (decide (0 + 1 ≤ l.length) && ((l.drop (l.length - 1)).take 1 == [10])) = _
  rcases split_last l with rfl | ⟨r, x, rfl⟩
  · rfl
  · have d : (r ++ [x]).drop ((r ++ [x]).length - 1) = [x] := by
      rw [List.length_append, List.length_singleton, Nat.add_sub_cancel, List.drop_left]
    rw [d, List.getLast?_append, List.length_append, List.length_singleton]
    show (decide (0 + 1 ≤ r.length + 1) && ([x] == [10])) = decide ((some x : Option Nat) = some 10)
    rw [decide_eq_true (show 0 + 1 ≤ r.length + 1 by omega), Bool.true_and]
    by_cases c : x = 10
    · subst c; rfl
    · rw [decide_eq_false (fun z => c (Option.some.inj z))]
      show (x == 10 && ([] : List Nat) == []) = false
      rw [beq_eq_false_iff_ne.mpr c]
      rfl
theorem cut_last (l : List Nat) : cutS (S l) none (some (-1 : Int)) = S l.dropLast := by
  unfold cutS
  rw [S_len]
  have e : HT.sIx l.length l.length (some (-1 : Int)) = l.length - 1 := by
    show (if (-1 : Int) < 0 then ((-1 : Int) + (l.length : Int)).toNat else min (-1 : Int).toNat l.length) = _
    rw [if_pos (by decide)]
    omega
  rw [e, HT.sIx_none]
  show S ((l.drop 0).take (l.length - 1 - 0)) = _
  rw [List.drop_zero, Nat.sub_zero, List.dropLast_eq_take]
theorem split_S {l : List Nat} {c : Nat} (hc : c < 256) : (Txt.split (S l) (S [c])).map tl = spl [c] 0 [] l := by
  rw [split_spl _ _ (by rw [tl_S]; exact fun z => (by cases z)) (kind_ok (by simpa using hc))]
theorem split_is {l : List Nat} {c : Nat} (hc : c < 256) : Txt.split (S l) (S [c]) = (spl [c] 0 [] l).map S := by
  refine map_tl_inj ?_
  rw [split_S hc, List.map_map]
  exact (List.map_id _).symm
theorem split_rows {ps : List (List Nat)} {c : Nat} (hc : c < 256) (ne : ps ≠ []) (h : ∀ p ∈ ps, c ∉ p) : Txt.split (S (joinL [c] ps)) (S [c]) = ps.map S := by
  rw [split_is hc, spl_join ne h]
/-- a word that names a number -/
def NameOk (a : List Nat) : Prop := (32 ∉ a ∧ 10 ∉ a) ∧ a.length ≤ 16 ∧ ∀ c ∈ a, c < 1114112
def NumOk (m : Int) : Prop := 0 ≤ m ∧ m < 1000000000000000
/-- a row's words: a name, a number, a name, .. -/
inductive RowOk : List (List Nat) → List Int → List (List Nat) → Prop
  | one (a : List Nat) (m : Int) (ha : NameOk a) (hm : NumOk m) : RowOk [a] [m] [a, num m]
  | two (a b : List Nat) (m n : Int) (ha : NameOk a) (hb : NameOk b) (hm : NumOk m) (hn : NumOk n) : RowOk [a, b] [m, n] [a, num m, b, num n]
  | four (a b c d : List Nat) (m n o p : Int) (ha : NameOk a) (hb : NameOk b) (hc : NameOk c) (hd : NameOk d) (hm : NumOk m) (hn : NumOk n) (ho : NumOk o) (hp : NumOk p) : RowOk [a, b, c, d] [m, n, o, p] [a, num m, b, num n, c, num o, d, num p]
theorem num_free {m : Int} {c : Nat} (h : c < 48 ∨ 57 < c) : c ∉ num m := fun z => by have := num_digit z; omega
theorem RowOk.names {names : List (List Nat)} {ns : List Int} {ws : List (List Nat)} (h : RowOk names ns ws) : ∀ a ∈ names, NameOk a := by
  cases h <;> (intro z hz; simp only [List.mem_cons, List.not_mem_nil, or_false] at hz; rcases hz with rfl | rfl | rfl | rfl <;> assumption)
theorem RowOk.nums {names : List (List Nat)} {ns : List Int} {ws : List (List Nat)} (h : RowOk names ns ws) : ∀ m ∈ ns, NumOk m := by
  cases h <;> (intro z hz; simp only [List.mem_cons, List.not_mem_nil, or_false] at hz; rcases hz with rfl | rfl | rfl | rfl <;> assumption)
theorem RowOk.word {names : List (List Nat)} {ns : List Int} {ws : List (List Nat)} (h : RowOk names ns ws) : ∀ w ∈ ws, (∃ a ∈ names, w = a) ∨ ∃ m ∈ ns, w = num m := by
  cases h <;> (intro z hz; simp only [List.mem_cons, List.not_mem_nil, or_false] at hz ⊢; rcases hz with rfl | rfl | rfl | rfl | rfl | rfl | rfl | rfl <;> simp)
theorem RowOk.len {names : List (List Nat)} {ns : List Int} {ws : List (List Nat)} (h : RowOk names ns ws) : ws.length = 2 * names.length ∧ ns.length = names.length ∧ names.length ≤ 4 ∧ 1 ≤ names.length := by cases h <;> exact ⟨rfl, rfl, by simp, by simp⟩
theorem RowOk.ev {α : Type} {f : List Nat → α} {names : List (List Nat)} {ns : List Int} {ws : List (List Nat)} (h : RowOk names ns ws) : pickI (ws.map f) (stepIx none none 2 (ws.map f).length) = names.map f := by
  cases h
  · exact pick_ev2 _ _
  · exact pick_ev4 _ _ _ _
  · exact pick_ev8 _ _ _ _ _ _ _ _
theorem RowOk.od {α : Type} {f : List Nat → α} {names : List (List Nat)} {ns : List Int} {ws : List (List Nat)} (h : RowOk names ns ws) : pickI (ws.map f) (stepIx (some 1) none 2 (ws.map f).length) = ns.map fun m => f (num m) := by
  cases h
  · exact pick_od2 _ _
  · exact pick_od4 _ _ _ _
  · exact pick_od8 _ _ _ _ _ _ _ _
theorem RowOk.free {names : List (List Nat)} {ns : List Int} {ws : List (List Nat)} (h : RowOk names ns ws) : ∀ w ∈ ws, 32 ∉ w ∧ 10 ∉ w := by
  intro w hw
  rcases h.word w hw with ⟨a, ha, rfl⟩ | ⟨m, hm, rfl⟩
  · exact (h.names _ ha).1
  · exact ⟨num_free (by decide), num_free (by decide)⟩
theorem joinL_len (s : List Nat) (k : Nat) : ∀ ws : List (List Nat), (∀ w ∈ ws, w.length ≤ k) → (joinL s ws).length ≤ ws.length * (k + s.length)
  | [], _ => Nat.zero_le _
  | [p], h => by
    have := h p (List.mem_cons_self ..)
    show p.length ≤ 1 * (k + s.length)
    omega
  | p :: q :: r, h => by
    have ih := joinL_len s k (q :: r) fun w hw => h w (List.mem_cons_of_mem _ hw)
    have := h p (List.mem_cons_self ..)
    show (p ++ (s ++ joinL s (q :: r))).length ≤ _
    rw [List.length_append, List.length_append, List.length_cons (a := p), Nat.succ_mul]
    omega
theorem joinL_mem {s c : Nat} : ∀ ws : List (List Nat), c ∈ joinL [s] ws → c = s ∨ ∃ w ∈ ws, c ∈ w
  | [], h => by cases h
  | [p], h => .inr ⟨p, List.mem_cons_self .., h⟩
  | p :: q :: r, h => by
    rcases List.mem_append.mp (show c ∈ p ++ ([s] ++ joinL [s] (q :: r)) from h) with h | h
    · exact .inr ⟨p, List.mem_cons_self .., h⟩
    · rcases List.mem_append.mp h with h | h
      · exact .inl (List.mem_singleton.mp h)
      · rcases joinL_mem (q :: r) h with h | ⟨w, hw, h⟩
        · exact .inl h
        · exact .inr ⟨w, List.mem_cons_of_mem _ hw, h⟩
theorem RowOk.size {names : List (List Nat)} {ns : List Int} {ws : List (List Nat)} (h : RowOk names ns ws) : (joinL [32] ws).length ≤ 136 := by
  have h1 := joinL_len [32] 16 ws fun w hw => by
    rcases h.word w hw with ⟨a, ha, rfl⟩ | ⟨m, hm, rfl⟩
    · exact (h.names _ ha).2.1
    · have z := h.nums m hm
      have := num_len z.1 z.2
      omega
  have h2 := h.len
  have e : ([32] : List Nat).length = 1 := rfl
  rw [e] at h1
  omega
theorem RowOk.noln {names : List (List Nat)} {ns : List Int} {ws : List (List Nat)} (h : RowOk names ns ws) : 10 ∉ joinL [32] ws := fun z => by
  rcases joinL_mem ws z with e | ⟨w, hw, m⟩
  · cases e
  · exact (h.free w hw).2 m
def strsD (ls : List (List Nat)) : PyData := .tuple (ls.map fun x => PyData.str (S x))
theorem strs_all {K : PySem.W.Frag} {H : Hp} : ∀ ls : List (List Nat), DpAll K H (ls.map fun x => V.str (S x)) (ls.map fun x => PyData.str (S x))
  | [] => .nil
  | x :: r => .cons (.str _) (strs_all r)
theorem strs_dp {K : PySem.W.Frag} {H : Hp} {o : Addr} {ls : List (List Nat)} (h : SqT K H o (ls.map fun x => V.str (S x))) : Dp K H (.ref o) (strsD ls) := .tup h (strs_all ls)
theorem strOk_S {x : List Nat} (h : ∀ c ∈ x, c < 1114112) : PyData.strOk (S x) = true := by
  unfold PyData.strOk
  simpa using h
theorem shaped_strs {ls : List (List Nat)} (h : ∀ x ∈ ls, ∀ c ∈ x, c < 1114112) : SeqAt.shaped (strsD ls) = true := by
  have h1 : ∀ ls : List (List Nat), (∀ x ∈ ls, ∀ c ∈ x, c < 1114112) → PyData.canLayAll0 (ls.map fun x => PyData.str (S x)) = true := by
    intro ls
    induction ls with
    | nil => intro _; simp [PyData.canLayAll0]
    | cons x r ih =>
      intro hh
      have a := strOk_S (hh x (List.mem_cons_self ..))
      have b := ih fun y hy => hh y (List.mem_cons_of_mem _ hy)
      simp only [List.map_cons, PyData.canLayAll0, b, Bool.and_true]
      simpa [PyData.canLay0] using a
  have h2 : ∀ ls : List (List Nat), PyData.depthAll (ls.map fun x => PyData.str (S x)) ≤ 2 := by
    intro ls
    induction ls with
    | nil => simp [PyData.depthAll]
    | cons x r ih =>
      simp only [List.map_cons, PyData.depthAll, PyData.depth]
      omega
  have d := h2 ls
  unfold SeqAt.shaped strsD
  rw [Bool.and_eq_true]
  refine ⟨by simpa [PyData.canLay0] using h1 ls h, decide_eq_true ?_⟩
  simp only [PyData.depth]
  omega
def wHome : List Nat := [104, 111, 109, 101]
def wAt : List Nat := [97, 116]
def wStop : List Nat := [115, 116, 111, 112]
def wFrom : List Nat := [102, 114, 111, 109]
def wTo : List Nat := [116, 111]
def wFor : List Nat := [102, 111, 114]
def stopW (s : Stp) : List (List Nat) := [wStop, num s.1, wFrom, num s.2.1, wTo, num s.2.2.1, wFor, num s.2.2.2]
def rowsW (ring : Bool) (len home start : Int) (sts : List Stp) : List (List (List Nat)) := [tl (wordOf ring), num len] :: [wHome, num home, wAt, num start] :: sts.map stopW
def dayT (ring : Bool) (len home start : Int) (sts : List Stp) : List Nat := joinL [10] ((rowsW ring len home start sts).map (joinL [32])) ++ [10]
theorem zero_S : (Str.ofString "0") = S [48] := by decide +kernel
theorem sp_S : (Str.ofString " ") = S [32] := by decide +kernel
theorem ln_S : (Str.ofString "\n") = S [10] := by decide +kernel
theorem name_word (ring : Bool) : NameOk (tl (wordOf ring)) := by
  cases ring <;> (refine ⟨⟨by decide +kernel, by decide +kernel⟩, by decide +kernel, by decide +kernel⟩)
theorem name_home : NameOk wHome := ⟨⟨by decide, by decide⟩, by decide, by decide⟩
theorem name_at : NameOk wAt := ⟨⟨by decide, by decide⟩, by decide, by decide⟩
theorem name_stop : NameOk wStop := ⟨⟨by decide, by decide⟩, by decide, by decide⟩
theorem name_from : NameOk wFrom := ⟨⟨by decide, by decide⟩, by decide, by decide⟩
theorem name_to : NameOk wTo := ⟨⟨by decide, by decide⟩, by decide, by decide⟩
theorem name_for : NameOk wFor := ⟨⟨by decide, by decide⟩, by decide, by decide⟩
theorem row_stop {ring : Bool} {len : Int} {s : Stp} (l2 : len ≤ 1000000000) (h : goodStop ring len s) : RowOk [wStop, wFrom, wTo, wFor] [s.1, s.2.1, s.2.2.1, s.2.2.2] (stopW s) := by
  obtain ⟨⟨a0, a1⟩, b0, b1, c1, d0, d1⟩ := h
  have a2 : placesOf ring len ≤ len + 1 := by unfold placesOf; split <;> omega
  refine .four _ _ _ _ _ _ _ _ name_stop name_from name_to name_for ⟨a0, ?_⟩ ⟨b0, ?_⟩ ⟨?_, ?_⟩ ⟨d0, ?_⟩ <;> omega
/-- the words of a day's rows, with their numbers -/
theorem rows_ok {ring : Bool} {len home start : Int} {sts : List Stp} (g : GoodDay ring len home start sts) : RowOk [tl (wordOf ring)] [len] [tl (wordOf ring), num len] ∧ RowOk [wHome, wAt] [home, start] [wHome, num home, wAt, num start] ∧ ∀ s ∈ sts, RowOk [wStop, wFrom, wTo, wFor] [s.1, s.2.1, s.2.2.1, s.2.2.2] (stopW s) := by
  obtain ⟨l1, l2, ⟨h0, h1⟩, ⟨s0, s1⟩, gs, _⟩ := g
  have a2 : placesOf ring len ≤ len + 1 := by unfold placesOf; split <;> omega
  refine ⟨.one _ _ (name_word ring) ⟨by omega, by omega⟩, .two _ _ _ _ name_home name_at ⟨h0, by omega⟩ ⟨s0, by omega⟩, fun s hs => row_stop l2 (gs s hs)⟩
theorem rows_all {ring : Bool} {len home start : Int} {sts : List Stp} (g : GoodDay ring len home start sts) : ∀ ws ∈ rowsW ring len home start sts, (joinL [32] ws).length ≤ 136 ∧ 10 ∉ joinL [32] ws := by
  obtain ⟨r1, r2, r3⟩ := rows_ok g
  intro ws hw
  rcases List.mem_cons.mp hw with rfl | hw
  · exact ⟨r1.size, r1.noln⟩
  rcases List.mem_cons.mp hw with rfl | hw
  · exact ⟨r2.size, r2.noln⟩
  obtain ⟨s, hs, rfl⟩ := List.mem_map.mp hw
  exact ⟨(r3 s hs).size, (r3 s hs).noln⟩
theorem dayT_size {ring : Bool} {len home start : Int} {sts : List Stp} (g : GoodDay ring len home start sts) : (dayT ring len home start sts).length ≤ 1300 := by
  have h7 : sts.length ≤ 7 := g.2.2.2.2.2
  have h := joinL_len [10] 136 ((rowsW ring len home start sts).map (joinL [32])) fun w hw => by
    obtain ⟨ws, hws, rfl⟩ := List.mem_map.mp hw
    exact (rows_all g ws hws).1
  have l : (rowsW ring len home start sts).length = sts.length + 2 := by unfold rowsW; rw [List.length_cons, List.length_cons, List.length_map]
  rw [List.length_map, l] at h
  have e : ([10] : List Nat).length = 1 := rfl
  unfold dayT
  rw [List.length_append, e]
  rw [e] at h
  omega
theorem dayT_ends (ring : Bool) (len home start : Int) (sts : List Stp) : (dayT ring len home start sts).getLast? = some 10 := by
  unfold dayT
  rw [List.getLast?_append]
  rfl
theorem dayT_cut (ring : Bool) (len home start : Int) (sts : List Stp) : (dayT ring len home start sts).dropLast = joinL [10] ((rowsW ring len home start sts).map (joinL [32])) := by
  unfold dayT
  rw [List.dropLast_concat]
theorem words_home : (["home", "at"] : List Str).map V.str = [wHome, wAt].map fun x => V.str (S x) := by
  have h1 : (Str.ofString "home") = S wHome := by decide +kernel
  have h2 : (Str.ofString "at") = S wAt := by decide +kernel
  show [V.str (Str.ofString "home"), V.str (Str.ofString "at")] = _
  rw [h1, h2]
  rfl
theorem words_stop : (["stop", "from", "to", "for"] : List Str).map V.str = [wStop, wFrom, wTo, wFor].map fun x => V.str (S x) := by
  have h1 : (Str.ofString "stop") = S wStop := by decide +kernel
  have h2 : (Str.ofString "from") = S wFrom := by decide +kernel
  have h3 : (Str.ofString "to") = S wTo := by decide +kernel
  have h4 : (Str.ofString "for") = S wFor := by decide +kernel
  show [V.str (Str.ofString "stop"), V.str (Str.ofString "from"), V.str (Str.ofString "to"), V.str (Str.ofString "for")] = _
  rw [h1, h2, h3, h4]
  rfl
theorem log_small {i : Int} (h0 : 0 ≤ i) (h1 : i < 1000000000000000) : i.natAbs.log2 < 1920 := by
  by_cases c : i.natAbs = 0
  · rw [c]; decide
  · refine (Nat.log2_lt c).mpr (Nat.lt_of_lt_of_le (show i.natAbs < 2 ^ 50 by omega) (Nat.pow_le_pow_right (by decide) (by decide)))
theorem lit_len : (Str.ofString " ").length = 1 ∧ (Str.ofString "\n").length = 1 ∧ (Str.ofString "home ").length = 5 ∧ (Str.ofString " at ").length = 4 ∧ (Str.ofString "stop ").length = 5 ∧ (Str.ofString " from ").length = 6 ∧ (Str.ofString " to ").length = 4 ∧ (Str.ofString " for ").length = 5 ∧ Str.empty.length = 0 := by decide +kernel
theorem lits_S : (Str.ofString "home ") = S (wHome ++ [32]) ∧ (Str.ofString " at ") = S ([32] ++ wAt ++ [32]) ∧ (Str.ofString "stop ") = S (wStop ++ [32]) ∧ (Str.ofString " from ") = S ([32] ++ wFrom ++ [32]) ∧ (Str.ofString " to ") = S ([32] ++ wTo ++ [32]) ∧ (Str.ofString " for ") = S ([32] ++ wFor ++ [32]) ∧ Str.empty = S [] := by decide +kernel
theorem join_rows : ∀ {ps : List (List Nat)}, ps ≠ [] → joinL [] (ps.map fun p => p ++ [10]) = joinL [10] ps ++ [10]
  | [], h => absurd rfl h
  | [p], _ => rfl
  | p :: q :: r, _ => by
    have ih := join_rows (ps := q :: r) (by simp)
    show (p ++ [10]) ++ ([] ++ joinL [] ((q :: r).map fun p => p ++ [10])) = (p ++ ([10] ++ joinL [10] (q :: r))) ++ [10]
    rw [ih, List.nil_append, List.append_assoc, List.append_assoc, List.append_assoc]
theorem join_day (ring : Bool) (len home start : Int) (sts : List Stp) : Txt.join Str.empty ((rowsW ring len home start sts).map fun ws => S (joinL [32] ws ++ [10])) = S (dayT ring len home start sts) := by
  refine ext_tl ?_
  rw [join_eq, tl_join, List.map_map]
  show joinL [] ((rowsW ring len home start sts).map fun ws => joinL [32] ws ++ [10]) = dayT ring len home start sts
  unfold dayT
  rw [← join_rows (by unfold rowsW; simp), List.map_map]
  rfl
theorem road_row (ring : Bool) {len : Int} (l0 : 0 ≤ len) : Str.empty ++ wordOf ring ++ Str.ofString " " ++ Str.ofString (toString len) ++ Str.ofString "\n" = S (joinL [32] [tl (wordOf ring), num len] ++ [10]) := by
  rw [S_num l0, sp_S, ln_S]
  refine ext_tl ?_
  simp only [tl_append, tl_S]
  show ((([] ++ tl (wordOf ring)) ++ [32]) ++ num len) ++ [10] = (tl (wordOf ring) ++ ([32] ++ num len)) ++ [10]
  rw [List.nil_append, List.append_assoc (tl (wordOf ring))]
theorem home_row {home start : Int} (h0 : 0 ≤ home) (s0 : 0 ≤ start) : Str.empty ++ Str.ofString "home " ++ Str.ofString (toString home) ++ Str.ofString " at " ++ Str.ofString (toString start) ++ Str.ofString "\n" = S (joinL [32] [wHome, num home, wAt, num start] ++ [10]) := by
  obtain ⟨a1, a2, a3, a4, a5, a6, a7⟩ := lits_S
  rw [S_num h0, S_num s0, ln_S, a1, a2, a7]
  refine ext_tl ?_
  simp only [tl_append, tl_S]
  show _ = (wHome ++ ([32] ++ (num home ++ ([32] ++ (wAt ++ ([32] ++ num start)))))) ++ [10]
  simp only [List.nil_append, List.append_assoc]
theorem stop_row {a b c d : Int} (h0 : 0 ≤ a) (h1 : 0 ≤ b) (h2 : 0 ≤ c) (h3 : 0 ≤ d) : Str.empty ++ Str.ofString "stop " ++ Str.ofString (toString a) ++ Str.ofString " from " ++ Str.ofString (toString b) ++ Str.ofString " to " ++ Str.ofString (toString c) ++ Str.ofString " for " ++ Str.ofString (toString d) ++ Str.ofString "\n" = S (joinL [32] (stopW (a, b, c, d)) ++ [10]) := by
  obtain ⟨a1, a2, a3, a4, a5, a6, a7⟩ := lits_S
  rw [S_num h0, S_num h1, S_num h2, S_num h3, ln_S, a3, a4, a5, a6, a7]
  refine ext_tl ?_
  simp only [tl_append, tl_S]
  show _ = (wStop ++ ([32] ++ (num a ++ ([32] ++ (wFrom ++ ([32] ++ (num b ++ ([32] ++ (wTo ++ ([32] ++ (num c ++ ([32] ++ (wFor ++ ([32] ++ num d)))))))))))))) ++ [10]
  simp only [List.nil_append, List.append_assoc]
theorem sum_le {α : Type} (f : α → Nat) (k : Nat) : ∀ xs : List α, (∀ x ∈ xs, f x ≤ k) → (xs.map f).sum ≤ xs.length * k
  | [], _ => by simp
  | x :: r, h => by
    have ih := sum_le f k r fun y hy => h y (List.mem_cons_of_mem _ hy)
    have := h x (List.mem_cons_self ..)
    rw [List.map_cons, List.sum_cons, List.length_cons, Nat.succ_mul]
    omega
theorem rows_sum {ring : Bool} {len home start : Int} {sts : List Stp} (g : GoodDay ring len home start sts) : ((((rowsW ring len home start sts).map fun ws => S (joinL [32] ws ++ [10])).map fun x => x.length).sum + ((rowsW ring len home start sts).map fun ws => S (joinL [32] ws ++ [10])).length * (Str.ofString "").length) ≤ 16777216 := by
  have h7 : sts.length ≤ 7 := g.2.2.2.2.2
  have l : ((rowsW ring len home start sts).map fun ws => S (joinL [32] ws ++ [10])).length = sts.length + 2 := by unfold rowsW; rw [List.length_map, List.length_cons, List.length_cons, List.length_map]
  have h := sum_le (fun x : Str => x.length) 137 ((rowsW ring len home start sts).map fun ws => S (joinL [32] ws ++ [10])) fun x hx => by
    obtain ⟨ws, hws, rfl⟩ := List.mem_map.mp hx
    have := (rows_all g ws hws).1
    show (S (joinL [32] ws ++ [10])).length ≤ 137
    rw [S_len, List.length_append]
    show (joinL [32] ws).length + 1 ≤ 137
    omega
  have e : (Str.ofString "").length = 0 := rfl
  rw [l] at h
  rw [l, e]
  omega

/-! ### a day as one list: a word, then numbers -/
def rawV (w : Str) (is : List Int) : List V := .str w :: is.map V.int
def stopI (s : Stp) : List Int := [s.1, s.2.1, s.2.2.1, s.2.2.2]
def rawI (len home start : Int) (sts : List Stp) : List Int := len :: home :: start :: sts.flatMap stopI
theorem chunks : ∀ (m : Nat) (is : List Int), is.length = 4 * m → ∃ sts : List Stp, sts.length = m ∧ is = sts.flatMap stopI
  | 0, is, h => by
    have e : is = [] := List.eq_nil_of_length_eq_zero (by omega)
    subst e
    exact ⟨[], rfl, rfl⟩
  | m + 1, [], h => by simp at h
  | m + 1, [_], h => by simp at h; omega
  | m + 1, [_, _], h => by simp at h; omega
  | m + 1, [_, _, _], h => by simp at h; omega
  | m + 1, a :: b :: c :: d :: r, h => by
    obtain ⟨sts, h1, h2⟩ := chunks m r (by simp at h; omega)
    exact ⟨(a, b, c, d) :: sts, by simp [h1], by rw [h2]; rfl⟩
theorem rawI_of {is : List Int} {m : Nat} (h : is.length = 3 + 4 * m) : ∃ len home start sts, is = rawI len home start sts ∧ sts.length = m := by
  match is, h with
  | [], h => simp at h; omega
  | [_], h => simp at h; omega
  | [_, _], h => simp at h; omega
  | a :: b :: c :: r, h =>
    obtain ⟨sts, h1, h2⟩ := chunks m r (by simp at h; omega)
    exact ⟨a, b, c, sts, by rw [h2]; rfl, h1⟩
theorem flat_len (sts : List Stp) : (sts.flatMap stopI).length = 4 * sts.length := by
  induction sts with
  | nil => rfl
  | cons s r ih =>
    rw [List.flatMap_cons, List.length_append, ih, List.length_cons]
    show 4 + 4 * r.length = 4 * (r.length + 1)
    omega
theorem rawI_len {len home start : Int} {sts : List Stp} : (rawI len home start sts).length = 3 + 4 * sts.length := by
  show (sts.flatMap stopI).length + 1 + 1 + 1 = _
  rw [flat_len]
  omega
theorem rawV_len {w : Str} {is : List Int} : (rawV w is).length = is.length + 1 := by
  show (is.map V.int).length + 1 = _
  rw [List.length_map]
theorem flat_at : ∀ {sts : List Stp} {i : Nat} {s : Stp} (j : Nat), sts[i]? = some s → j < 4 → (sts.flatMap stopI)[4 * i + j]? = (stopI s)[j]?
  | [], i, s, j, h, _ => by simp at h
  | a :: r, 0, s, j, h, hj => by
    have e : a = s := by simpa using h
    subst e
    rw [List.flatMap_cons, List.getElem?_append_left (by show 4 * 0 + j < 4; omega)]
    congr 1
    omega
  | a :: r, i + 1, s, j, h, hj => by
    have ih := flat_at (sts := r) (i := i) (s := s) j (by simpa using h) hj
    rw [List.flatMap_cons, List.getElem?_append_right (by show 4 ≤ 4 * (i + 1) + j; omega)]
    have e : 4 * (i + 1) + j - (stopI a).length = 4 * i + j := by show 4 * (i + 1) + j - 4 = _; omega
    rw [e, ih]
theorem raw_at {w : Str} {len home start : Int} {sts : List Stp} {i : Nat} {s : Stp} (h : sts[i]? = some s) :
    atI (rawV w (rawI len home start sts)) (4 + (i : Int) * 4) = some (.int s.1) ∧ atI (rawV w (rawI len home start sts)) (4 + (i : Int) * 4 + 1) = some (.int s.2.1) ∧
    atI (rawV w (rawI len home start sts)) (4 + (i : Int) * 4 + 2) = some (.int s.2.2.1) ∧ atI (rawV w (rawI len home start sts)) (4 + (i : Int) * 4 + 3) = some (.int s.2.2.2) := by
  have key : ∀ (j : Nat) (v : Int), j < 4 → (stopI s)[j]? = some v → atI (rawV w (rawI len home start sts)) (4 + (i : Int) * 4 + (j : Int)) = some (.int v) := by
    intro j v hj hv
    have e : (4 + (i : Int) * 4 + (j : Int)) = ((4 + 4 * i + j : Nat) : Int) := by omega
    rw [e]
    refine atI_nat ?_
    show (V.str w :: (rawI len home start sts).map V.int)[4 + 4 * i + j]? = _
    have e2 : 4 + 4 * i + j = (4 * i + j + 3) + 1 := by omega
    rw [e2, List.getElem?_cons_succ, List.getElem?_map]
    have e3 : (rawI len home start sts)[4 * i + j + 3]? = (sts.flatMap stopI)[4 * i + j]? := rfl
    rw [e3, flat_at j h hj, hv]
    rfl
  refine ⟨?_, key 1 _ (by decide) rfl, key 2 _ (by decide) rfl, key 3 _ (by decide) rfl⟩
  have k0 := key 0 s.1 (by decide) rfl
  have e : (4 + (i : Int) * 4 + ((0 : Nat) : Int)) = 4 + (i : Int) * 4 := by omega
  rw [e] at k0
  exact k0
theorem raw_0 {w : Str} {is : List Int} : atI (rawV w is) 0 = some (.str w) := atI_nat (j := 0) rfl
theorem raw_s {w : Str} {is : List Int} {j : Nat} {v : Int} (h : is[j]? = some v) : atI (rawV w is) ((j + 1 : Nat) : Int) = some (.int v) := by
  refine atI_nat ?_
  show (V.str w :: is.map V.int)[j + 1]? = _
  rw [List.getElem?_cons_succ, List.getElem?_map, h]
  rfl
theorem raw_1 {w : Str} {len : Int} {r : List Int} : atI (rawV w (len :: r)) 1 = some (.int len) := raw_s (j := 0) rfl
theorem raw_2 {w : Str} {len home : Int} {r : List Int} : atI (rawV w (len :: home :: r)) 2 = some (.int home) := raw_s (j := 1) rfl
theorem raw_3 {w : Str} {len home start : Int} {r : List Int} : atI (rawV w (len :: home :: start :: r)) 3 = some (.int start) := raw_s (j := 2) rfl
theorem rg4 : ∀ m : Nat, m < 28 → (4 : Int) ≠ 0 ∧ (4 : Int).natAbs < 1073741824 ∧ Builtin.Range.small 4 (4 + 4 * (m : Int)) 4 = true ∧ Builtin.Range.rangeSize 4 (4 + 4 * (m : Int)) 4 = m := by decide +kernel
/-! ### list.count of truth values -/
def eqkB (k : Bool) (v : Value) : Bool := match v with
  | .bool n => n == k
  | _ => false
theorem eqkB_at {k : Bool} {A : Around} {s : Shared} : ∀ {bs : List Bool} {us : List Value}, Vals (bs.map V.bl) us → ∀ y ∈ us, SeqAt.EqAt A s y (.bool k) (eqkB k y)
  | [], us, h => by
    cases h
    intro y hy
    cases hy
  | b :: bs, us, h => by
    cases h with
    | cons r t =>
      cases r
      intro y hy
      rcases List.mem_cons.mp hy with e | hy
      · subst e
        exact eqAt_V (y := .bl b) (x := .bl k) rfl rfl rfl rfl
      · exact eqkB_at t y hy
theorem eqkB_count {k : Bool} : ∀ {bs : List Bool} {us : List Value}, Vals (bs.map V.bl) us → us.countP (eqkB k) = bs.count k
  | [], us, h => by cases h; rfl
  | b :: bs, us, h => by
    cases h with
    | cons r t =>
      cases r
      have ih := eqkB_count (k := k) t
      rw [List.countP_cons, List.count_cons, ih] <;> rfl
/-- how many of the list's truth values are k -/
def rCntB (K : PySem.W.Frag) : V → List V → Hp → VK → Prop := fun x xs H Q => ∃ (p : Addr) (bs : List Bool) (k : Bool), x = .ref p ∧ xs = [.bl k] ∧ SqL K H p (bs.map V.bl) ∧ Q (.int (bs.count k : Nat)) H
theorem mt_countB {X : Cx} : MtR X "list.count" (rCntB X.K) := by
  intro ps0 st0 σ0 H0 xr as0 vr ur W0 Inv0 relx relas asked
  obtain ⟨l, bs, k, hx, has, hl, wish⟩ := asked
  subst hx has
  cases relx
  obtain ⟨kv, hkv, relk⟩ := relas.one
  subst hkv
  cases relk
  obtain ⟨vals, relv, ⟨ob, many, atl, isl, nod, sq⟩, _⟩ := Inv0.list hl
  obtain ⟨ocls, odd, odata, oslots⟩ := ob
  simp only at isl sq
  subst isl sq
  have num := eqkB_count (k := k) relv
  refine call_meets PySem.F.slot_list_count ⟨_, atl, rfl⟩ PySem.F.entry_list_count (PySem.F.args_list_count_2 _ _) (SeqAt.list_countAt l vals.toArray many odd oslots (.bool k) (eqkB k)) ⟨atl, fun y hy => eqkB_at relv y (by simpa using hy), ?_⟩
  refine ⟨.int (bs.count k : Nat), H0, Inv0.tok _, ⟨st0.toks, ?_⟩, wish⟩
  have both : ((vals.toArray.toList.countP (eqkB k) : Nat) : Int) = ((bs.count k : Nat) : Int) := congrArg Nat.cast num
  exact congrArg (fun z => Value.int z st0.toks) both


/-! ### a comprehension whose element may raise -/
theorem note_same {e : Value} {c d : Env} (h : c.frame = d.frame) : noteFrame e c = noteFrame e d := by
  unfold noteFrame PySem.frameOf
  rw [h]
abbrev blkX (X : Cx) (s : Shared) (H : Hp) (scope : Scope) (ce : Env) (fp : List Addr) : Cx :=
  { X.blk s H scope ce fp with xe := notedBy (model X.prog X.w) X.A ce fun e s' => CompFails (model X.prog X.w) X.A X.xe ce e s' }
theorem without (B : Heap) (C : Addr) : ∃ G : Heap, (∀ b, b ≠ C → G.get? b = B.get? b) ∧ G.get? C = none := by
  obtain ⟨G, g1, g2⟩ := L2.restrict B fun b => decide (b ≠ C)
  exact ⟨G, fun b hb => g1 b (decide_eq_true hb), g2 C (by simp)⟩
/-- the block's variables are let go: the exception is held as before -/
theorem held_blk {B B2 h h' : Heap} {l : List Env} {a L C : Addr} {Z : Obj → Prop} {m m' : Str → Option Value} (hh : HandSPX.HeldZ B l a Z L h) (hn : h.Ns C m) (sb : Heap.SameBut C h h')
    (b1 : ∀ b, b ≠ C → B2.get? b = B.get? b) (b2 : B2.get? C = none) (hC : C ∉ frs l) : HandSPX.HeldZ B2 l a Z L h' := by
  obtain ⟨st, na, fr, oe, vs, T, oT, ts, q1, q2, q3, q4, q5, q6, q7, q8, q9⟩ := hh
  obtain ⟨oC, es, ep, c1, c2, _⟩ := hn
  have two : ∀ b, B.get? b = none → B2.get? b = none := fun b e => by
    by_cases hb : b = C
    · rw [hb]; exact b2
    · rw [b1 b hb]; exact e
  have n1 : a ≠ C := fun z => by
    rw [z, c1] at q1
    cases q1
    rw [c2] at q3
    cases q3
  have n2 : T ≠ C := fun z => by
    rw [z, c1] at q7
    cases q7
    rw [c2] at q8
    cases q8
  refine ⟨fun b o e => ?_, two a na, ?_, oe, vs, T, oT, ts, (sb.2 a n1).trans q1, q2, q3, q4, two T q5, q6, (sb.2 T n2).trans q7, q8, q9⟩
  · by_cases hb : b = C
    · rw [hb, b2] at e; cases e
    · exact (sb.2 b hb).trans (st b o (by rw [← b1 b hb]; exact e))
  · have one : ∀ l : List Env, C ∉ frs l → h.FunFrames B l → h'.FunFrames B2 l := by
      intro l
      induction l with
      | nil => exact fun _ _ => trivial
      | cons env r ih =>
        rintro hc ⟨k, ⟨F, o, f1, f2, f3, f4⟩, f5⟩
        have nF : F ≠ C := fun z => hc (by unfold frs; rw [List.filterMap_cons, f1, z]; exact List.mem_cons_self)
        exact ⟨k, ⟨F, o, f1, two F f2, (sb.2 F nF).trans f3, f4⟩, ih (fun z => hc (by unfold frs at z ⊢; rw [List.filterMap_cons, f1]; exact List.mem_cons_of_mem _ z)) f5⟩
    exact one l hC fr
/-- what a callee lets out, from within the block -/
theorem blk_out {X : Cx} {pins : List (Addr × Obj)} {σ : L2.St} {H : Hp} {s : Shared} {scope : Scope} {ce : Env} {fp : List Addr} {W : WX} {E : XK} (I : L2.Inv X pins σ H s) (hs : X.stack = X.env :: X.outer) (hf : X.env.frame = some X.env.locals)
    (hce : ce.frame = X.env.frame) (hL : ce.locals = s.heap.objs.size) (hfp : ∀ b ∈ fp, FpOk X pins H b) (tk : Takes X W) (hW : ∀ cls d H', E cls d H' → W cls d σ H') : Passes (L2.CX X.prog X.w) (blkX X s H scope ce fp) E := by
  rintro pins6 σ6 H6 s6 e s' I6 ⟨a, B, H', cls, d, rfl, fl, hok, ub, na, os, ag, hE⟩
  have hfr : X.A.frames = some (X.env :: X.outer) := I.ok.frames.trans (congrArg some hs)
  have stk : (blkX X s H scope ce fp).stack = X.stack := rfl
  have fl' : HandSPX.FlyingZ B (X.env :: X.outer) a (Zc cls d) s'.heap := by rw [← hs]; exact fl
  have cnew : ∀ b o, s.heap.get? b = some o → b ≠ ce.locals := fun b o q => by rw [hL]; exact Nat.ne_of_lt (Heap.lt_size q)
  have hC : ce.locals ∉ frs (X.env :: X.outer) := fun z => by
    rw [← hs] at z
    obtain ⟨_, o, q, _⟩ := I.stack.mem z
    exact cnew _ o q rfl
  show wpAny (model X.prog X.w) X.A (noteFrame (.ref a) ce) _ _ s'
  rw [note_same hce]
  refine HandSPX.looks_onZ Zc.steady hfr hf fl' fun h1 hh up1 => ?_
  obtain ⟨m, hn, _⟩ := I6.loc
  replace hn : s6.heap.Ns ce.locals m := hn
  obtain ⟨oC, es, ep, c1, c2, c3⟩ := hn
  have c4 : h1.get? ce.locals = some oC := hh.1 _ _ (ub.keep _ _ c1 I6.free (by rw [stk, hs]; exact hC))
  have hn1 : h1.Ns ce.locals m := ⟨oC, es, ep, c4, c2, c3⟩
  refine ⟨m, hn1, fun h2 m' _ sb => ?_⟩
  obtain ⟨B2, b1, b2⟩ := without B ce.locals
  have hh2 : HandSPX.HeldZ B2 (X.env :: X.outer) a (Zc cls d) X.env.locals h2 := held_blk (m' := m') hh hn1 sb b1 b2 hC
  unfold PySem.passOn
  obtain ⟨_, _, _, oe, vs, t, oT, ts, q1, q2, q3, q4, q5, q6, q7, q8, q9⟩ := id hh2
  refine wpAny_bind (wpAny_field q1 q3 q4 ?_)
  rw [if_neg (by simp), hce, hf]
  refine wpAny_bind (HandSPX.setFlight_onZ hh2 fun h3 hh3 up3 => ?_)
  refine wpAny_throw ?_
  obtain ⟨G, g1, g2⟩ := L2.restrict h3 fun b => (B2.get? b).isSome || decide (b ∈ frs X.stack)
  have st3 : B2.StaysIn h3 := hh3.1
  have gB : ∀ b o, B2.get? b = some o → G.get? b = some o := fun b o q => (g1 b (by simp [q])).trans (st3 b o q)
  have gB1 : ∀ b o, B.get? b = some o → b ≠ ce.locals → G.get? b = some o := fun b o q n => gB b o ((b1 b n).trans q)
  have gF : ∀ b, b ∈ frs X.stack → G.get? b = h3.get? b := fun b hb => g1 b (by simp [hb])
  have og : ∀ b o, G.get? b = some o → h3.get? b = some o ∧ ((B2.get? b).isSome = true ∨ b ∈ frs X.stack) := fun b o q => by
    cases z : ((B2.get? b).isSome || decide (b ∈ frs X.stack)) with
    | false => rw [g2 b z] at q; cases q
    | true =>
      rw [g1 b z] at q
      exact ⟨q, by simpa [Bool.or_eq_true] using z⟩
  -- the frames' slots, from the block's state on
  have slots : ∀ b o, b ∈ frs X.stack → s6.heap.get? b = some o → ∃ sl, G.get? b = some { o with slots := sl } := fun b o hb q => by
    obtain ⟨sl1, r1⟩ := ub.slot b o q (by rw [stk]; exact hb)
    obtain ⟨_, oB, rB, nB⟩ := fl'.2.2.1.mem (b := b) (by rw [hs] at hb; exact hb)
    rw [r1] at rB
    obtain ⟨sl2, r2⟩ := up1 b _ r1 (by cases rB; exact nB)
    have nb : b ≠ ce.locals := fun z => hC (by rw [← z, ← hs]; exact hb)
    obtain ⟨sl3, r3⟩ := up3 b _ ((sb.2 b nb).trans r2) (by cases rB; exact nB)
    exact ⟨sl3, (gF b hb).trans r3⟩
  have un6 := I6.base
  have fs6 : (blkX X s H scope ce fp).fs = frs X.stack := rfl
  have I7 : L2.Inv X pins σ H' { s' with heap := G } := by
    refine I.call' (ch := fp) (os.trans I6.os) ⟨fun b o q n hb hx => ?_, fun b o q n hb hx => ?_, fun b o q n hx => ?_, fun b o q hx => ?_, fun b xs q => ub.tups b xs (un6.tups b xs q), fun b o xs q => ub.frzs b o xs (un6.frzs b o xs q), fun b ps q => ?_⟩ ?_ ag (fun b hb => ⟨(hfp b hb).2.2.2.1, (hfp b hb).2.1, (hfp b hb).2.2.2.2.1, (hfp b hb).2.2.2.2.2⟩)
    · exact gB1 b o (ub.keep b o (un6.keep b o q n hb hx) (un6.free b o q n hx) (by rw [stk]; exact hb)) (cnew b o q)
    · obtain ⟨sl, r⟩ := un6.slot b o q n hb hx
      obtain ⟨sl2, r2⟩ := slots b _ hb r
      exact ⟨sl2, r2⟩
    · obtain ⟨o', r⟩ := un6.there b o q hx
      exact ub.free b o' r (un6.free b o q n hx)
    · obtain ⟨o', r⟩ := un6.there b o q hx
      by_cases hb : b ∈ frs X.stack
      · obtain ⟨sl, r2⟩ := slots b o' hb r
        exact ⟨_, r2⟩
      · obtain ⟨o2, r2⟩ := ub.there b o' r (by rw [stk]; exact hb)
        exact ⟨o2, gB1 b o2 r2 (cnew b o q)⟩
    · obtain ⟨m1, r1⟩ := un6.tbls b ps q
      obtain ⟨m2, r2⟩ := ub.tbls b _ r1
      exact ⟨m1 ++ m2, by rw [r2, Array.append_assoc]⟩
    · have cfree : H' ce.locals = none := ub.free _ _ c1 I6.free
      intro b o q
      refine (hok b o q).stay (fun c u hc r => gB1 c u r fun z => ?_) (fun _ r => r) fun _ _ r => r
      rcases hc with hc | hc
      · rw [← hc, z, cfree] at q; cases q
      · rw [z, cfree] at hc; cases hc
  refine tk _ _ ⟨a, B2, { s' with heap := G }, pins, σ, H', cls, d, rfl, I7, fun b o q hb => ?_, Heap.UpToSlots.of_keeps fun b o q => (og b o q).1, .inr (.inr (by rw [hs]; exact hh3)), na, rfl, ag, hW _ _ _ hE⟩
  obtain ⟨q', r⟩ := og b o q
  rcases r with r | r
  · obtain ⟨o', z⟩ := Option.isSome_iff_exists.mp r
    rw [st3 b o' z] at q'
    cases q'
    exact z
  · exact absurd r hb
theorem inv_xe {X : Cx} {pins : List (Addr × Obj)} {σ : L2.St} {H : Hp} {s : Shared} {F : Value → Shared → Prop} (I : L2.Inv X pins σ H s) : L2.Inv { X with xe := F } pins σ H s := by
  obtain ⟨⟨o1, o2, o3, o4, o5, o6, o7, o8, o9, oa, ob, oc, od, oe, og, oh, oi, oj⟩, i1, i2, i3, i4, i5, i6, i7, i8, i9, ia⟩ := I
  exact ⟨⟨o1, o2, o3, o4, o5, o6, o7, o8, o9, oa, ob, oc, od, oe, og, oh, oi, oj⟩, i1, i2, i3, i4, i5, i6, i7, i8, i9, ia⟩
theorem lcx_core {X : Cx} {pins : List (Addr × Obj)} {s : Shared} {σ : L2.St} {H : Hp} {Q : VK} {E0 : XK} {elt tg iter : Expr} {ifs : List Expr} {scope : Scope} {own : List (Str × Nat)} {pos pos' : Pos} {wi : TI} {g : TG} {tt : TT} {te : TE} {use : Option (Value → Sem Unit)} {Qf : Value → Shared → Prop}
    (hst : X.stack = X.env :: X.outer) (hfr : X.env.frame = some X.env.locals) (tk : Takes X fun c d _ H => E0 c d H) (hc : X.calm = true) (hN : X.N.Nodup) (I : L2.Inv X pins σ H s) (hi : PI X tg iter wi) (ok : BlkOk X.N X.env.scope scope own)
    (hg : ∀ (s : Shared) (H : Hp) (C : Addr) (cl : List (Str × Addr)) (fp : List Addr), PG (blkX X s H scope (compEnvC scope cl C X.env) fp) tg g) (ht : ∀ (s : Shared) (H : Hp) (C : Addr) (cl : List (Str × Addr)) (fp : List Addr), PTs (blkX X s H scope (compEnvC scope cl C X.env) fp) ifs tt)
    (he : ∀ (s : Shared) (H : Hp) (C : Addr) (cl : List (Str × Addr)) (fp : List Addr), Passes (L2.CX X.prog X.w) (blkX X s H scope (compEnvC scope cl C X.env) fp) E0 → PE (blkX X s H scope (compEnvC scope cl C X.env) fp) elt te) (hs : ∀ x, foldedSetIterable iter X.env x = pure x)
    (hw : tLc wi g tt te (own.map (·.2)) σ H Q)
    (hRR : ∀ D ce s' m H', L2.Inv X pins σ H' s' → Q (.ref D) H' → s'.heap.Ns ce.locals m → FpOk X pins H' ce.locals → compEnds (model X.prog X.w) X.A X.xe use Qf (.ref D) ce (.ok .next) s') :
    wpAny (model X.prog X.w) X.A (comprehension (Expr.ListComp elt [⟨tg, iter, ifs, 0⟩] scope pos) scope X.env pos' (newList []) false (eval iter X.env) use) Qf X.xe s := by
  have frees : ∀ z ∈ scope.names, z.2 = .free → ∃ c, X.env.cells.lookup z.1 = some c := fun z hz q => (ok.free z hz q).elim (fun k => I.ok.has _ (.inl k)) fun k => I.ok.has _ (.inr k)
  refine comprehension_at (use := use) rfl hs (closure_ok frees) ok.kind (fun z hz q => by rw [ok.uniq z hz, q]) (thn (hi.run pins s σ H _ I hw) fun xv sa ha => thn ha fun itv sb hb => ?_)
  obtain ⟨it, fp, tn, J, Hb, rfl, Ib, T, stb, fb, qb⟩ := hb
  refine wpAny_newObj_type (newEnv_comp ?_) (Nat.zero_le _)
  generalize hD : sb.heap.objs.size = D
  have Dn : Hb D = none := Ib.hok.fresh (Nat.le_of_eq hD)
  obtain ⟨W, ⟨m0, w0⟩, turn⟩ := qb D Dn
  generalize hsc : ({ sb with heap := sb.heap.push { cls := .type "list", data := .seq ([] : List Value).toArray } } : Shared) = sc
  have Ic : L2.Inv X pins σ (upd Hb D (.lst [])) sc := by
    rw [← hsc]
    exact Ib.laid (t' := sb.toks) (fun b o q => Heap.get?_push_of_some _ q) (Nat.le_of_eq hD) ⟨Nat.zero_le _, [], 0, .nil, by rw [← hD]; exact Heap.get?_push_size _ rfl⟩
  have heapc : sc.heap = sb.heap.push { cls := .type "list", data := .seq ([] : List Value).toArray } := by rw [← hsc]
  have older : ∀ b ∈ fp, b < sb.heap.objs.size := fun b hb => (T.obj _ _ stb b hb).elim fun o q => Heap.lt_size q.1
  have fc : ∀ b ∈ fp, FpOk X pins (upd Hb D (.lst [])) b ∧ b < sc.heap.objs.size := fun b hb => by
    have lt := older b hb
    refine ⟨⟨?_, (fb b hb).2⟩, by rw [heapc, Heap.size_push]; exact Nat.lt_succ_of_lt lt⟩
    rw [upd_ne (fun z => absurd lt (by rw [z, ← hD]; exact Nat.lt_irrefl _))]
    exact (fb b hb).1
  have stc : tn 0 sc.heap := T.keep _ _ _ stb fun b _ o q => by rw [heapc]; exact Heap.get?_push_of_some _ q
  have Id := inv_xe (F := notedBy (model X.prog X.w) X.A (compEnvC scope (cellsFrom (sc.heap.objs.size + 1) scope.names (cloFrom X.env.cells scope.names [])) sc.heap.objs.size X.env) fun e s' => CompFails (model X.prog X.w) X.A X.xe (compEnvC scope (cellsFrom (sc.heap.objs.size + 1) scope.names (cloFrom X.env.cells scope.names [])) sc.heap.objs.size X.env) e s') (block_start Ic ok hN fc)
  have pg := hg sc (upd Hb D (.lst [])) sc.heap.objs.size (cellsFrom (sc.heap.objs.size + 1) scope.names (cloFrom X.env.cells scope.names [])) fp
  have pt := ht sc (upd Hb D (.lst [])) sc.heap.objs.size (cellsFrom (sc.heap.objs.size + 1) scope.names (cloFrom X.env.cells scope.names [])) fp
  have pe := he sc (upd Hb D (.lst [])) sc.heap.objs.size (cellsFrom (sc.heap.objs.size + 1) scope.names (cloFrom X.env.cells scope.names [])) fp (blk_out Ic hst hfr rfl rfl (fun b hb => (fc b hb).1) tk fun _ _ _ z => z)
  show codeAny _ _ (.compStart (.ListComp elt [⟨tg, iter, ifs, 0⟩] scope pos) 0 (.ref it) (.ref D) (compEnvC scope (cellsFrom (sc.heap.objs.size + 1) scope.names (cloFrom X.env.cells scope.names [])) sc.heap.objs.size X.env)) (compEnds (model X.prog X.w) X.A X.xe use Qf (.ref D) (compEnvC scope (cellsFrom (sc.heap.objs.size + 1) scope.names (cloFrom X.env.cells scope.names [])) sc.heap.objs.size X.env)) { sc with heap := pushCells (sc.heap.push { cls := .type "dict", data := .dict #[] }) scope.names }
  have nofp : ∀ b ∈ fp, (upd Hb D (.lst [])) b = none := fun b hb => (fc b hb).1.1
  generalize hce : compEnvC scope (cellsFrom (sc.heap.objs.size + 1) scope.names (cloFrom X.env.cells scope.names [])) sc.heap.objs.size X.env = ce at Id pg pt pe ⊢
  have ceL : ce.locals = sc.heap.objs.size := by subst hce; rfl
  generalize hHc : upd Hb D (.lst []) = Hc at Ic Id pg pt pe w0 nofp fc
  generalize hsd : ({ sc with heap := pushCells (sc.heap.push { cls := .type "dict", data := .dict #[] }) scope.names } : Shared) = sd at Id ⊢
  have std : tn 0 sd.heap := T.keep _ _ _ stc fun b _ o q => by rw [← hsd]; exact pushCells_keeps _ _ _ _ (Heap.get?_push_of_some _ q)
  have Id : L2.Inv (blkX X sc Hc scope ce fp) [] (wipe σ (own.map (·.2))) Hc sd := Id
  have stat : ∀ {τ : L2.St} {G : Hp} {t : Shared}, L2.Inv (blkX X sc Hc scope ce fp) [] τ G t → (∀ b ∈ fp, G b = none) → ∀ b ∈ fp, FpOk (blkX X sc Hc scope ce fp) [] G b := fun {τ G t} J n b hb =>
    ⟨n b hb, (J.ok.exf b hb).1, J.ok.exfs b hb, .inl hb, (J.ok.exf b hb).2, fun p hp => absurd (show p ∈ ([] : List (Addr × Obj)) ++ [] from hp) (by simp)⟩
  have fails : ∀ e t, (blkX X sc Hc scope ce fp).xe e t → notedBy (model X.prog X.w) X.A ce (fun e t => compEnds (model X.prog X.w) X.A X.xe use Qf (.ref D) ce (.error e) t) e t := fun e t z => by
    have one : ∀ e t, CompFails (model X.prog X.w) X.A X.xe ce e t → compEnds (model X.prog X.w) X.A X.xe use Qf (.ref D) ce (.error e) t := fun e t y => by cases use <;> exact y
    exact wpAny_mono z (fun _ t' y => one e t' y) fun e' t' y => one e' t' y
  have loop : codeAny (model X.prog X.w) X.A (.compLoop (.ListComp elt [⟨tg, iter, ifs, 0⟩] scope pos) 0 (.ref it) (.ref D) ce) (compEnds (model X.prog X.w) X.A X.xe use Qf (.ref D) ce) sd := by
    refine compLoop_any (fun n t => ∃ i G, L2.Inv (blkX X sc Hc scope ce fp) [] (wipe σ (own.map (·.2))) G t ∧ tn i t.heap ∧ (∀ b ∈ fp, G b = none) ∧ W i n G) ?_ m0 ⟨0, Hc, Id, std, nofp, w0⟩
    rintro n t5 ⟨i, H5, I5, st5, n5, w5⟩
    rcases turn i n H5 w5 with ⟨stop, atEnd⟩ | ⟨go, Nx, hNx, step⟩
    · refine thnF (T.done (blkX X sc Hc scope ce fp) rfl rfl rfl hc i [] t5 _ H5 (fun _ _ => False) I5 (stat I5 n5) st5 stop) fun r t6 ⟨hr, I6⟩ => ?_
      subst hr
      have I7 : L2.Inv X pins σ H5 t6 := Ic.call' (ch := fp) I6.os I6.base I6.hok I6.bare fun b hb => ⟨(fc b hb).1.2.2.2.1, (fc b hb).1.2.1, (fc b hb).1.2.2.2.2.1, (fc b hb).1.2.2.2.2.2⟩
      have nC : H5 ce.locals = none := I6.free
      obtain ⟨m, hn, _⟩ := I6.loc
      exact hRR D ce t6 m H5 I7 atEnd hn (Ic.fpOk (Nat.le_of_eq ceL.symm) nC)
    · refine thnF (T.item (blkX X sc Hc scope ce fp) rfl rfl rfl hc i [] t5 _ H5 (fun _ _ => False) I5 (stat I5 n5) st5 go) fun r t6 ⟨u, hr, h6⟩ => ?_
      subst hr
      refine thnF h6 fun _ t7 ⟨x, H7, I7, r7, y7, st7, n7⟩ => ?_
      refine wpAny_mono (pg.run _ t7 _ H7 x u _ (I7.pinned (stat I7 n7) (T.obj _ _ st7)) r7 (step x H7 y7)) (fun _ t8 ⟨σ8, H8, I8, hw8, q8⟩ => ?_) fails
      refine wpAny_mono (pt.run _ t8 σ8 H8 _ I8 q8) (fun b t9 ⟨H9, I9, q9⟩ => ?_) fails
      have fin : ∀ {t : Shared} {G : Hp}, L2.Inv (blkX X sc Hc scope ce fp) ([] ++ pinsAt fp t7.heap) σ8 G t → Nx G → ∃ m, m < n ∧ ∃ i G, L2.Inv (blkX X sc Hc scope ce fp) [] (wipe σ (own.map (·.2))) G t ∧ tn i t.heap ∧ (∀ b ∈ fp, G b = none) ∧ W i m G := fun {t G} J nx => by
        obtain ⟨m1, lt1, w1⟩ := hNx G nx
        have pinned : ∀ b ∈ fp, ∀ o, t7.heap.get? b = some o → t.heap.get? b = some o ∧ G b = none := fun b hb o q =>
          let z := J.pin (b, o) (List.mem_append_right _ (List.mem_append_right _ (mem_pinsAt hb q)))
          ⟨z.1, z.2.1⟩
        refine ⟨m1, lt1, i + 1, G, (J.unpinned (pins := [])).weak (by rw [← hw8, wipe_length]) (fun j v q => ?_), T.keep _ _ _ st7 fun b hb o q => (pinned b hb o q).1, fun b hb => ?_, w1⟩
        · rw [← hw8] at q
          exact (wipe_some q).1
        · obtain ⟨o, q, _⟩ := T.obj _ _ st7 b hb
          exact (pinned b hb o q).2
      cases b with
      | false => exact fin I9 q9
      | true =>
        refine wpAny_mono (pe.run _ t9 σ8 H9 _ I9 q9) (fun z t10 ⟨yv, H10, I10, r10, acc, hDa, hza, nx⟩ => ?_) fails
        exact app_ok (X := blkX X sc Hc scope ce fp) I10 hDa hza r10 fun t11 I11 => fin I11 nx
  exact codeAny_compStart_list loop (T.self X.A 0 _ _ _ std loop)
/-- as a value -/
theorem pe_lcX {X : Cx} {E0 : XK} {elt tg iter : Expr} {ifs : List Expr} {scope : Scope} {own : List (Str × Nat)} {pos : Pos} {wi : TI} {g : TG} {tt : TT} {te : TE}
    (hst : X.stack = X.env :: X.outer) (hfr : X.env.frame = some X.env.locals) (tk : Takes X fun c d _ H => E0 c d H) (hc : X.calm = true) (hN : X.N.Nodup) (hi : PI X tg iter wi) (ok : BlkOk X.N X.env.scope scope own)
    (hg : ∀ (s : Shared) (H : Hp) (C : Addr) (cl : List (Str × Addr)) (fp : List Addr), PG (blkX X s H scope (compEnvC scope cl C X.env) fp) tg g) (ht : ∀ (s : Shared) (H : Hp) (C : Addr) (cl : List (Str × Addr)) (fp : List Addr), PTs (blkX X s H scope (compEnvC scope cl C X.env) fp) ifs tt)
    (he : ∀ (s : Shared) (H : Hp) (C : Addr) (cl : List (Str × Addr)) (fp : List Addr), Passes (L2.CX X.prog X.w) (blkX X s H scope (compEnvC scope cl C X.env) fp) E0 → PE (blkX X s H scope (compEnvC scope cl C X.env) fp) elt te) (hs : ∀ x, foldedSetIterable iter X.env x = pure x := by intro _; rfl) :
    PE X (Expr.ListComp elt [⟨tg, iter, ifs, 0⟩] scope pos) (tLc wi g tt te (own.map (·.2))) := by
  refine ⟨fun pins s σ H Q I hw => ?_⟩
  rw [eval_ListComp]
  refine lcx_core hst hfr tk hc hN I hi ok hg ht he hs hw fun D ce s' m H' J q hn f => ⟨m, hn, fun h2 sb => ?_⟩
  obtain ⟨f0, f1, _, f3, f4, f5⟩ := f
  exact ⟨.ref D, H', J.turned (t' := s'.toks) (fun b o hb e => (sb.2 b hb).trans e) f0 f1 f3 f4 f5, rfl, q⟩
/-- name = [..] on one line -/
theorem ps_setLcX {X : Cx} {E0 : XK} {i : Nat} {y : Str} {py : Pos} {elt tg iter : Expr} {ifs : List Expr} {scope : Scope} {own : List (Str × Nat)} {pos spos : Pos} {wi : TI} {g : TG} {tt : TT} {te : TE}
    (hst : X.stack = X.env :: X.outer) (hfr : X.env.frame = some X.env.locals) (tk : Takes X fun c d _ H => E0 c d H) (hc : X.calm = true) (hN : X.N.Nodup) (hy : X.N[i]? = some y) (hyl : X.env.scope.names.lookup y = some .local)
    (hswap : swapsWith (.ListComp elt [⟨tg, iter, ifs, 0⟩] scope pos) (some (.Name y py)) spos.line X.env = pure true) (hi : PI X tg iter wi) (ok : BlkOk X.N X.env.scope scope own)
    (hg : ∀ (s : Shared) (H : Hp) (C : Addr) (cl : List (Str × Addr)) (fp : List Addr), PG (blkX X s H scope (compEnvC scope cl C X.env) fp) tg g) (ht : ∀ (s : Shared) (H : Hp) (C : Addr) (cl : List (Str × Addr)) (fp : List Addr), PTs (blkX X s H scope (compEnvC scope cl C X.env) fp) ifs tt)
    (he : ∀ (s : Shared) (H : Hp) (C : Addr) (cl : List (Str × Addr)) (fp : List Addr), Passes (L2.CX X.prog X.w) (blkX X s H scope (compEnvC scope cl C X.env) fp) E0 → PE (blkX X s H scope (compEnvC scope cl C X.env) fp) elt te) (hs : ∀ x, foldedSetIterable iter X.env x = pure x := by intro _; rfl) :
    PS X (Stmt.Assign [.Name y py] (.ListComp elt [⟨tg, iter, ifs, 0⟩] scope pos) spos) (tAsg (tLc wi g tt te (own.map (·.2))) (gName i)) := by
  refine ⟨fun pins s σ H D I hw => ?_⟩
  rw [exec_Assign_Name_used _ _ _ _ hswap]
  refine wpAny_bind <| wpAny_standAt <| wpAny_bind ?_
  show wpAny _ X.A (comprehension (.ListComp elt [⟨tg, iter, ifs, 0⟩] scope pos) scope X.env (firstIterPos [⟨tg, iter, ifs, 0⟩] pos) (newList []) false (eval iter X.env) (some (assign (.Name y py) X.env)) >>= _) _ _ s
  refine wpAny_bind (thn (lcx_core (Q := fun x H1 => gName i x σ H1 D.nx) (Qf := fun _ s' => SP X pins D .next s') hst hfr tk hc hN I hi ok hg ht he hs hw fun Lx ce s' m H' J q hn f => ?_) fun _ s' hq => wpAny_pure (wpAny_pure hq))
  show wpAny _ _ (assign (.Name y py) X.env (.ref Lx)) _ _ _
  refine wpAny_assign_Name (store_ok2 (v := V.ref Lx) J hN hy (.inl hyl) rfl (fun s2 J2 ⟨a, sb, ha⟩ => ?_) (.inr hyl))
  obtain ⟨f0, f1, _, f3, f4, f5⟩ := f
  have other : ce.locals ≠ a := fun z => ha.elim (fun q => f1 (z.trans q)) fun q => f4 y a q z.symm
  exact ⟨m, hn.sameBut sb other, fun h3 sb3 => ⟨_, H', J2.turned (t' := s2.toks) (fun b o hb e => (sb3.2 b hb).trans e) f0 f1 f3 f4 f5, q⟩⟩

/-! ### any text: its rows, its words, its numbers -/
def cutAt (c : Nat) : List Nat → List (List Nat)
  | [] => [[]]
  | x :: r => if x = c then [] :: cutAt c r else match cutAt c r with
    | [] => [[x]]
    | p :: q => (x :: p) :: q
theorem cutAt_ne (c : Nat) : ∀ l, cutAt c l ≠ []
  | [] => by simp [cutAt]
  | x :: r => by
    unfold cutAt
    split
    · simp
    · split <;> simp
def onto (a : List Nat) : List (List Nat) → List (List Nat)
  | [] => [a]
  | p :: q => (a ++ p) :: q
theorem spl_cut (c : Nat) : ∀ (l a : List Nat), spl [c] 0 a l = onto a (cutAt c l)
  | [], a => by rw [spl_nil]; show [a] = [a ++ []]; rw [List.append_nil]
  | x :: r, a => by
    by_cases h : x = c
    · rw [TL.spl_hit (by rw [h]; simp [TL.pre])]
      show a :: spl [c] 0 [] r = _
      rw [spl_cut c r, show cutAt c (x :: r) = [] :: cutAt c r by show (if x = c then _ else _) = _; rw [if_pos h]]
      show a :: onto [] (cutAt c r) = (a ++ []) :: cutAt c r
      rw [List.append_nil]
      cases e : cutAt c r with
      | nil => exact absurd e (cutAt_ne c r)
      | cons p q => rfl
    · rw [TL.spl_miss (by simp [TL.pre, h]), spl_cut c r]
      rw [show cutAt c (x :: r) = match cutAt c r with | [] => [[x]] | p :: q => (x :: p) :: q by show (if x = c then _ else _) = _; rw [if_neg h]]
      cases e : cutAt c r with
      | nil => exact absurd e (cutAt_ne c r)
      | cons p q => show (a ++ [x] ++ p) :: q = (a ++ (x :: p)) :: q; rw [List.append_assoc]; rfl
theorem split_cut {l : List Nat} {c : Nat} (hc : c < 256) : Txt.split (S l) (S [c]) = (cutAt c l).map S := by
  rw [split_is hc, spl_cut]
  cases e : cutAt c l with
  | nil => exact absurd e (cutAt_ne c l)
  | cons p q => rfl
theorem cutAt_hit (c : Nat) (r : List Nat) : cutAt c (c :: r) = [] :: cutAt c r := by
  show (if c = c then _ else _) = _
  rw [if_pos rfl]
theorem cutAt_miss {c x : Nat} {r p : List Nat} {q : List (List Nat)} (h : x ≠ c) (e : cutAt c r = p :: q) : cutAt c (x :: r) = (x :: p) :: q := by
  show (if x = c then _ else match cutAt c r with | [] => [[x]] | p :: q => (x :: p) :: q) = _
  rw [if_neg h, e]
theorem cutAt_cons (c : Nat) (l : List Nat) : ∃ p q, cutAt c l = p :: q := by
  cases e : cutAt c l with
  | nil => exact absurd e (cutAt_ne c l)
  | cons p q => exact ⟨p, q, rfl⟩
/-- a sign at the end -/
theorem cutAt_end (c : Nat) : ∀ l : List Nat, cutAt c (l ++ [c]) = cutAt c l ++ [[]]
  | [] => by show cutAt c (c :: []) = _; rw [cutAt_hit]; rfl
  | x :: r => by
    have ih := cutAt_end c r
    obtain ⟨p, q, e⟩ := cutAt_cons c r
    show cutAt c (x :: (r ++ [c])) = _
    by_cases h : x = c
    · subst h
      rw [cutAt_hit, cutAt_hit, ih]
      rfl
    · rw [cutAt_miss h e, cutAt_miss h (by rw [ih, e]; rfl)]
      rfl
theorem cutAt_last {c x : Nat} (h : x ≠ c) : ∀ l : List Nat, ∃ ps p, cutAt c (l ++ [x]) = ps ++ [p ++ [x]]
  | [] => ⟨[], [], by show cutAt c (x :: []) = _; rw [cutAt_miss h (show cutAt c [] = [] :: [] from rfl)]; rfl⟩
  | y :: r => by
    obtain ⟨ps, p, e⟩ := cutAt_last h r
    show ∃ ps p, cutAt c (y :: (r ++ [x])) = _
    by_cases hy : y = c
    · subst hy
      exact ⟨[] :: ps, p, by rw [cutAt_hit, e]; rfl⟩
    · cases ps with
      | nil => exact ⟨[], y :: p, by rw [cutAt_miss hy e]; rfl⟩
      | cons a b => exact ⟨(y :: a) :: b, p, by rw [cutAt_miss hy e]; rfl⟩
theorem cutAt_sub (c : Nat) : ∀ (l : List Nat), ∀ p ∈ cutAt c l, (∀ a ∈ p, a ∈ l) ∧ p.length ≤ l.length
  | [], p, hp => by
    obtain rfl := List.mem_singleton.mp hp
    exact ⟨fun _ h => h, Nat.le_refl _⟩
  | x :: r, p, hp => by
    have ih := cutAt_sub c r
    by_cases h : x = c
    · subst h
      rw [cutAt_hit] at hp
      rcases List.mem_cons.mp hp with rfl | hp
      · exact ⟨fun _ h => (by cases h), Nat.zero_le _⟩
      · exact ⟨fun a ha => List.mem_cons_of_mem _ ((ih p hp).1 a ha), Nat.le_succ_of_le (ih p hp).2⟩
    · obtain ⟨a, b, e⟩ := cutAt_cons c r
      rw [cutAt_miss h e] at hp
      rw [e] at ih
      rcases List.mem_cons.mp hp with rfl | hp
      · refine ⟨fun z hz => ?_, Nat.succ_le_succ (ih a (List.mem_cons_self ..)).2⟩
        rcases List.mem_cons.mp hz with rfl | hz
        · exact List.mem_cons_self ..
        · exact List.mem_cons_of_mem _ ((ih a (List.mem_cons_self ..)).1 z hz)
      · have z := ih p (List.mem_cons_of_mem _ hp)
        exact ⟨fun a ha => List.mem_cons_of_mem _ (z.1 a ha), Nat.le_succ_of_le z.2⟩
theorem cutAt_len (c : Nat) : ∀ l : List Nat, (cutAt c l).length ≤ l.length + 1
  | [] => Nat.le_refl _
  | x :: r => by
    have ih := cutAt_len c r
    by_cases h : x = c
    · subst h
      rw [cutAt_hit, List.length_cons, List.length_cons]
      omega
    · obtain ⟨a, b, e⟩ := cutAt_cons c r
      rw [cutAt_miss h e, List.length_cons, List.length_cons]
      rw [e, List.length_cons] at ih
      omega
theorem cutAt_head {c : Nat} : ∀ {l p : List Nat} {q : List (List Nat)}, cutAt c l = p :: q → ∃ s, l = p ++ s
  | [], p, q, e => by
    have : ([] : List Nat) = p := (List.cons.inj e).1
    exact ⟨[], by rw [← this]; rfl⟩
  | x :: r, p, q, e => by
    by_cases h : x = c
    · subst h
      rw [cutAt_hit] at e
      exact ⟨x :: r, by rw [← (List.cons.inj e).1]; rfl⟩
    · obtain ⟨a, b, e2⟩ := cutAt_cons c r
      rw [cutAt_miss h e2] at e
      obtain ⟨s, es⟩ := cutAt_head e2
      exact ⟨s, by rw [← (List.cons.inj e).1, es]; rfl⟩
/-- ASCII, of a length that is seen to -/
def Asc (l : List Nat) : Prop := ∀ a ∈ l, a < 128
theorem Asc.app {a b : List Nat} (ha : Asc a) (hb : Asc b) : Asc (a ++ b) := fun z hz => (List.mem_append.mp hz).elim (ha z) (hb z)
theorem Asc.sub {a b : List Nat} (hb : Asc b) (h : ∀ z ∈ a, z ∈ b) : Asc a := fun z hz => hb z (h z hz)
theorem Asc.cut {c : Nat} {l p : List Nat} (h : Asc l) (hp : p ∈ cutAt c l) : Asc p := h.sub (cutAt_sub c l p hp).1
/-! #### numbers -/
def valOf (l : List Nat) : Int := l.foldl (fun (n : Int) (c : Nat) => 10 * n + ((c : Int) - 48)) 0
theorem valOf_snoc (l : List Nat) (c : Nat) : valOf (l ++ [c]) = 10 * valOf l + ((c : Int) - 48) := by
  unfold valOf
  rw [List.foldl_append]
  rfl
def Digs (l : List Nat) : Prop := ∀ c ∈ l, 48 ≤ c ∧ c ≤ 57
instance (l : List Nat) : Decidable (Digs l) := inferInstanceAs (Decidable (∀ c ∈ l, 48 ≤ c ∧ c ≤ 57))
def lead0 : List Nat → Bool
  | 48 :: _ :: _ => true
  | _ => false
def numOf (l : List Nat) : Option Int := if (1 ≤ l.length ∧ l.length ≤ 15) ∧ Digs l ∧ lead0 l = false then some (valOf l) else none
theorem Digs.snoc {l : List Nat} {c : Nat} (h : Digs (l ++ [c])) : Digs l ∧ 48 ≤ c ∧ c ≤ 57 := ⟨fun z hz => h z (List.mem_append_left _ hz), h c (List.mem_append_right _ (List.mem_singleton.mpr rfl))⟩
theorem valOf_bounds : ∀ (n : Nat) (l : List Nat), l.length = n → Digs l → 0 ≤ valOf l ∧ valOf l < 10 ^ n := by
  intro n
  induction n with
  | zero =>
    intro l e _
    obtain rfl := List.eq_nil_of_length_eq_zero e
    exact ⟨by decide, by decide⟩
  | succ n ih =>
    intro l e h
    rcases split_last l with rfl | ⟨r, c, rfl⟩
    · cases e
    · obtain ⟨h1, h2, h3⟩ := h.snoc
      obtain ⟨i1, i2⟩ := ih r (by rw [List.length_append, List.length_singleton] at e; omega) h1
      rw [valOf_snoc, Int.pow_succ]
      omega
theorem valOf_small {l : List Nat} (h : Digs l) (hl : l.length ≤ 15) : 0 ≤ valOf l ∧ valOf l < 1000000000000000 := by
  obtain ⟨h1, h2⟩ := valOf_bounds l.length l rfl h
  refine ⟨h1, Int.lt_of_lt_of_le h2 ?_⟩
  have z : (10 : Nat) ^ l.length ≤ 10 ^ 15 := Nat.pow_le_pow_right (by decide) hl
  have e : ((10 : Int) ^ l.length) = (((10 : Nat) ^ l.length : Nat) : Int) := by rw [Int.natCast_pow]; rfl
  rw [e]
  have : (10 : Nat) ^ 15 = 1000000000000000 := by decide
  omega
theorem num_valOf : ∀ (n : Nat) (l : List Nat), l.length = n → 1 ≤ n → Digs l → lead0 l = false → num (valOf l) = l ∧ (l = [48] ∨ 1 ≤ valOf l) := by
  intro n
  induction n with
  | zero => intro l _ h; omega
  | succ n ih =>
    intro l e _ h hz
    rcases split_last l with rfl | ⟨r, c, rfl⟩
    · cases e
    · obtain ⟨h1, h2, h3⟩ := h.snoc
      have er : r.length = n := by rw [List.length_append, List.length_singleton] at e; omega
      rw [valOf_snoc]
      cases r with
      | nil =>
        have v0 : valOf [] = 0 := rfl
        rw [v0]
        refine ⟨?_, ?_⟩
        · rw [num_lt (by omega) (by omega)]
          show [48 + (10 * 0 + ((c : Int) - 48)).toNat] = [c]
          congr 1
          omega
        · by_cases h0 : c = 48
          · exact .inl (by rw [h0]; rfl)
          · exact .inr (by omega)
      | cons a t =>
        have hz2 : lead0 (a :: t) = false := by
          cases t with
          | nil => unfold lead0; split <;> simp_all
          | cons b u =>
            by_cases ha : a = 48
            · subst ha; cases hz
            · unfold lead0; split <;> simp_all
        have na : (a :: t) ≠ [48] := fun z => by
          rw [z] at hz
          cases hz
        obtain ⟨i1, i2⟩ := ih (a :: t) er (by rw [← er]; exact Nat.succ_le_succ (Nat.zero_le _)) h1 hz2
        have i3 : 1 ≤ valOf (a :: t) := i2.elim (fun z => absurd z na) id
        refine ⟨?_, .inr (by omega)⟩
        rw [num_step (by omega)]
        have d1 : (10 * valOf (a :: t) + ((c : Int) - 48)) / 10 = valOf (a :: t) := by omega
        have d2 : 48 + ((10 * valOf (a :: t) + ((c : Int) - 48)) % 10).toNat = c := by omega
        rw [d1, d2, i1]
theorem numOf_some {l : List Nat} {n : Int} (h : numOf l = some n) : (1 ≤ l.length ∧ l.length ≤ 15) ∧ Digs l ∧ lead0 l = false ∧ n = valOf l ∧ 0 ≤ n ∧ n < 1000000000000000 ∧ PySem.intText? (S l) = some n := by
  unfold numOf at h
  by_cases c : (1 ≤ l.length ∧ l.length ≤ 15) ∧ Digs l ∧ lead0 l = false
  · rw [if_pos c] at h
    obtain rfl := Option.some.inj h
    obtain ⟨⟨c1, c2⟩, c3, c4⟩ := c
    obtain ⟨b1, b2⟩ := valOf_small c3 c2
    have e := (num_valOf l.length l rfl c1 c3 c4).1
    refine ⟨⟨c1, c2⟩, c3, c4, rfl, b1, b2, ?_⟩
    have z := num_int b1 (by rw [e]; omega)
    rw [e] at z
    exact z
  · rw [if_neg c] at h; cases h
theorem numOf_is {l : List Nat} (c1 : 1 ≤ l.length ∧ l.length ≤ 15) (c2 : Digs l) (c3 : lead0 l = false) : numOf l = some (valOf l) := by
  unfold numOf
  rw [if_pos ⟨c1, c2, c3⟩]
theorem numOf_no {l : List Nat} (h : ¬ ((1 ≤ l.length ∧ l.length ≤ 15) ∧ Digs l ∧ lead0 l = false)) : numOf l = none := by
  unfold numOf
  rw [if_neg h]
/-! #### rows -/
def rowOf : List (List Nat) → List (List Nat) → Option (List Int)
  | [], [] => some []
  | a :: ns, w :: x :: r => if w = a then match numOf x, rowOf ns r with
    | some n, some ms => some (n :: ms)
    | _, _ => none
    else none
  | _, _ => none
theorem rowOf_len : ∀ {names ws : List (List Nat)} {ns : List Int}, rowOf names ws = some ns → ns.length = names.length ∧ ws.length = 2 * names.length ∧ ∀ n ∈ ns, 0 ≤ n ∧ n < 1000000000000000
  | [], [], ns, h => by
    obtain rfl := Option.some.inj h
    exact ⟨rfl, rfl, fun n hn => (by cases hn)⟩
  | [], _ :: _, _, h => by cases h
  | _ :: _, [], _, h => by cases h
  | _ :: _, [_], _, h => by cases h
  | a :: as, w :: x :: r, ns, h => by
    unfold rowOf at h
    split at h
    · cases e1 : numOf x with
      | none => rw [e1] at h; cases h
      | some n =>
        rw [e1] at h
        cases e2 : rowOf as r with
        | none => rw [e2] at h; cases h
        | some ms =>
          rw [e2] at h
          obtain rfl := Option.some.inj h
          obtain ⟨i1, i2, i3⟩ := rowOf_len e2
          refine ⟨by rw [List.length_cons, List.length_cons, i1], by rw [List.length_cons, List.length_cons, List.length_cons, i2]; omega, fun m hm => ?_⟩
          rcases List.mem_cons.mp hm with rfl | hm
          · have z := numOf_some e1
            exact ⟨z.2.2.2.2.1, z.2.2.2.2.2.1⟩
          · exact i3 m hm
    · cases h
theorem rowOf_short : ∀ {names ws : List (List Nat)}, ws.length ≠ 2 * names.length → rowOf names ws = none := fun {names ws} h => by
  cases e : rowOf names ws with
  | none => rfl
  | some ns => exact absurd (rowOf_len e).2.1 h
def numsOf : List (List Nat) → Option (List Int)
  | [] => some []
  | w :: r => match numOf w, numsOf r with
    | some n, some ms => some (n :: ms)
    | _, _ => none
theorem rowOf_one (a w x : List Nat) : rowOf [a] [w, x] = if [w] = [a] then numsOf [x] else none := by
  unfold rowOf numsOf
  by_cases h : w = a
  · rw [if_pos h, if_pos (by rw [h])]; rfl
  · rw [if_neg h, if_neg (fun z => h (List.cons.inj z).1)]
theorem row_step (a w x : List Nat) (as r es os : List (List Nat)) (h : rowOf as r = if es = as then numsOf os else none) : rowOf (a :: as) (w :: x :: r) = if w :: es = a :: as then numsOf (x :: os) else none := by
  rw [show rowOf (a :: as) (w :: x :: r) = if w = a then match numOf x, rowOf as r with | some n, some ms => some (n :: ms) | _, _ => none else none from rfl, show numsOf (x :: os) = match numOf x, numsOf os with | some n, some ms => some (n :: ms) | _, _ => none from rfl, h]
  by_cases h1 : w = a
  · rw [if_pos h1]
    by_cases h2 : es = as
    · rw [if_pos h2, if_pos (by rw [h1, h2])]
    · rw [if_neg h2, if_neg (fun z => h2 (List.cons.inj z).2)]
      cases numOf x <;> rfl
  · rw [if_neg h1, if_neg (fun z => h1 (List.cons.inj z).1)]
theorem rowOf_two (a b w x y z : List Nat) : rowOf [a, b] [w, x, y, z] = if [w, y] = [a, b] then numsOf [x, z] else none := row_step _ _ _ _ _ _ _ (rowOf_one b y z)
theorem rowOf_four (a b c d w x y z p q r s : List Nat) : rowOf [a, b, c, d] [w, x, y, z, p, q, r, s] = if [w, y, p, r] = [a, b, c, d] then numsOf [x, z, q, s] else none :=
  row_step _ _ _ _ _ _ _ (row_step _ _ _ _ _ _ _ (rowOf_two c d p q r s))
theorem numsOf_app : ∀ (a b : List (List Nat)), numsOf (a ++ b) = match numsOf a, numsOf b with | some x, some y => some (x ++ y) | _, _ => none
  | [], b => by
    show numsOf b = match some [], numsOf b with | some x, some y => some (x ++ y) | _, _ => none
    cases numsOf b <;> rfl
  | w :: r, b => by
    show (match numOf w, numsOf (r ++ b) with | some n, some ms => some (n :: ms) | _, _ => none) = _
    rw [numsOf_app r b]
    show _ = match (match numOf w, numsOf r with | some n, some ms => some (n :: ms) | _, _ => none), numsOf b with | some x, some y => some (x ++ y) | _, _ => none
    cases numOf w <;> cases numsOf r <;> cases numsOf b <;> rfl
theorem numsOf_bad {a b : List (List Nat)} {w : List Nat} (h : numOf w = none) : numsOf (a ++ w :: b) = none := by
  rw [numsOf_app, show numsOf (w :: b) = match numOf w, numsOf b with | some n, some ms => some (n :: ms) | _, _ => none from rfl, h]
  cases numsOf a <;> rfl
theorem numsOf_snoc {a : List (List Nat)} {w : List Nat} {ns : List Int} {n : Int} (h1 : numsOf a = some ns) (h2 : numOf w = some n) : numsOf (a ++ [w]) = some (ns ++ [n]) := by
  rw [numsOf_app, h1, show numsOf [w] = match numOf w, numsOf [] with | some n, some ms => some (n :: ms) | _, _ => none from rfl, h2]
  rfl
/-! #### days that are read -/
def wordL (ring : Bool) : List Nat := tl (wordOf ring)
theorem S_wordL (ring : Bool) : S (wordL ring) = wordOf ring := S_tl _
theorem wordL_is : wordL false = [108, 105, 110, 101] ∧ wordL true = [114, 105, 110, 103] := by decide +kernel
theorem wordL_ne : wordL false ≠ wordL true := by decide +kernel
theorem wordL_inj {a b : Bool} (h : wordL a = wordL b) : a = b := by
  cases a <;> cases b
  · rfl
  · exact absurd h wordL_ne
  · exact absurd h.symm wordL_ne
  · rfl
theorem wordL_len (ring : Bool) : (wordL ring).length = 4 := by cases ring <;> decide +kernel
theorem wordL_asc (ring : Bool) : Asc (wordL ring) := by cases ring <;> (unfold Asc; decide +kernel)
def road1 (ring : Bool) (r : List Nat) : Option Int := match rowOf [wordL ring] (cutAt 32 r) with
  | some [n] => some n
  | _ => none
def roadOf (r : List Nat) : Option (Bool × Int) := match road1 false r with
  | some n => some (false, n)
  | none => match road1 true r with
    | some n => some (true, n)
    | none => none
def stopNames : List (List Nat) := [wStop, wFrom, wTo, wFor]
def homeNames : List (List Nat) := [wHome, wAt]
def stopOf (r : List Nat) : Option Stp := match rowOf stopNames (cutAt 32 r) with
  | some [a, b, c, d] => some (a, b, c, d)
  | _ => none
def stopsOf : List (List Nat) → Option (List Stp)
  | [] => some []
  | r :: rs => match stopOf r, stopsOf rs with
    | some s, some ss => some (s :: ss)
    | _, _ => none
def homeOf (r : List Nat) : Option (Int × Int) := match rowOf homeNames (cutAt 32 r) with
  | some [a, b] => some (a, b)
  | _ => none
structure RawD where
  ring : Bool
  len : Int
  home : Int
  start : Int
  sts : List Stp
def dayOf : Option (Bool × Int) → Option (Int × Int) → Option (List Stp) → Option RawD
  | some (g, n), some (h, t), some ss => some ⟨g, n, h, t, ss⟩
  | _, _, _ => none
def rowsDay : List (List Nat) → Option RawD
  | r0 :: r1 :: rs => dayOf (roadOf r0) (homeOf r1) (stopsOf rs)
  | _ => none
theorem rowsDay_cons (r0 r1 : List Nat) (rs : List (List Nat)) : rowsDay (r0 :: r1 :: rs) = dayOf (roadOf r0) (homeOf r1) (stopsOf rs) := rfl
def readOf (l : List Nat) : Option RawD := if l.getLast? = some 10 then rowsDay (cutAt 10 l.dropLast) else none
theorem row1_of {a : List Nat} {r : List (List Nat)} {ns : List Int} (h : rowOf [a] r = some ns) : ∃ n, ns = [n] := by
  have z := (rowOf_len h).1
  match ns, z with
  | [n], _ => exact ⟨n, rfl⟩
theorem row1_head {a : List Nat} {ws : List (List Nat)} {ns : List Int} (h : rowOf [a] ws = some ns) : ∃ x, ws = [a, x] := by
  have z := (rowOf_len h).2.1
  match ws, z with
  | [w, x], _ =>
    rw [rowOf_one] at h
    by_cases e : [w] = [a]
    · rw [(List.cons.inj e).1]; exact ⟨x, rfl⟩
    · rw [if_neg e] at h; cases h
theorem road1_some {ring : Bool} {r : List Nat} {n : Int} (h : road1 ring r = some n) : rowOf [wordL ring] (cutAt 32 r) = some [n] := by
  unfold road1 at h
  cases e : rowOf [wordL ring] (cutAt 32 r) with
  | none => rw [e] at h; cases h
  | some ns =>
    obtain ⟨m, rfl⟩ := row1_of e
    rw [e] at h
    rw [Option.some.inj h]
theorem road1_is {ring : Bool} {r : List Nat} {ns : List Int} (h : rowOf [wordL ring] (cutAt 32 r) = some ns) : ∃ n, ns = [n] ∧ road1 ring r = some n := by
  obtain ⟨n, rfl⟩ := row1_of h
  exact ⟨n, rfl, by unfold road1; rw [h]⟩
theorem road1_word {ring : Bool} {r : List Nat} {n : Int} (h : road1 ring r = some n) : r.take 4 = wordL ring := by
  obtain ⟨x, e⟩ := row1_head (road1_some h)
  obtain ⟨s, es⟩ := cutAt_head e
  rw [es, ← wordL_len ring, List.take_left]
theorem roadOf_is {ring : Bool} {r : List Nat} {n : Int} (h : road1 ring r = some n) : roadOf r = some (ring, n) := by
  unfold roadOf
  cases ring with
  | false => rw [h]
  | true =>
    have no : road1 false r = none := by
      cases e : road1 false r with
      | none => rfl
      | some m => exact absurd ((road1_word e).symm.trans (road1_word h)) wordL_ne
    rw [no, h]
theorem roadOf_some {ring : Bool} {r : List Nat} {n : Int} (h : roadOf r = some (ring, n)) : road1 ring r = some n := by
  unfold roadOf at h
  cases e : road1 false r with
  | some m =>
    rw [e] at h
    have z := Option.some.inj h
    rw [← (Prod.mk.inj z).1, ← (Prod.mk.inj z).2]
    exact e
  | none =>
    rw [e] at h
    cases e2 : road1 true r with
    | some m =>
      rw [e2] at h
      have z := Option.some.inj h
      rw [← (Prod.mk.inj z).1, ← (Prod.mk.inj z).2]
      exact e2
    | none => rw [e2] at h; cases h
/-- the first word of a row that is no road's -/
theorem roadOf_no {r p : List Nat} {q : List (List Nat)} (e : cutAt 32 r = p :: q) (h1 : p ≠ wordL false) (h2 : p ≠ wordL true) : roadOf r = none := by
  cases h : roadOf r with
  | none => rfl
  | some x =>
    obtain ⟨ring, n⟩ := x
    obtain ⟨y, e2⟩ := row1_head (road1_some (roadOf_some h))
    rw [e] at e2
    have z := (List.cons.inj e2).1
    cases ring
    · exact absurd z h1
    · exact absurd z h2
/-- .. that is one -/
theorem roadOf_at {r : List Nat} {ring : Bool} {q : List (List Nat)} (e : cutAt 32 r = wordL ring :: q) : (rowOf [wordL ring] (cutAt 32 r) = none → roadOf r = none) ∧ ∀ ns, rowOf [wordL ring] (cutAt 32 r) = some ns → ∃ n, ns = [n] ∧ roadOf r = some (ring, n) := by
  refine ⟨fun h => ?_, fun ns h => ?_⟩
  · cases z : roadOf r with
    | none => rfl
    | some x =>
      obtain ⟨g, n⟩ := x
      have y := road1_some (roadOf_some z)
      obtain ⟨u, e2⟩ := row1_head y
      rw [e] at e2
      rw [wordL_inj (List.cons.inj e2).1, y] at h
      cases h
  · obtain ⟨n, rfl, hn⟩ := road1_is h
    exact ⟨n, rfl, roadOf_is hn⟩
theorem homeOf_is {r : List Nat} : (rowOf homeNames (cutAt 32 r) = none → homeOf r = none) ∧ ∀ ns, rowOf homeNames (cutAt 32 r) = some ns → ∃ a b, ns = [a, b] ∧ homeOf r = some (a, b) := by
  refine ⟨fun h => by unfold homeOf; rw [h], fun ns h => ?_⟩
  have z := (rowOf_len h).1
  match ns, z with
  | [a, b], _ => exact ⟨a, b, rfl, by unfold homeOf; rw [h]⟩
theorem stopOf_is {r : List Nat} : (rowOf stopNames (cutAt 32 r) = none → stopOf r = none) ∧ ∀ ns, rowOf stopNames (cutAt 32 r) = some ns → ∃ s : Stp, ns = stopI s ∧ stopOf r = some s := by
  refine ⟨fun h => by unfold stopOf; rw [h], fun ns h => ?_⟩
  have z := (rowOf_len h).1
  match ns, z with
  | [a, b, c, d], _ => exact ⟨(a, b, c, d), rfl, by unfold stopOf; rw [h]⟩
theorem stopsOf_app : ∀ (a b : List (List Nat)), stopsOf (a ++ b) = match stopsOf a, stopsOf b with | some x, some y => some (x ++ y) | _, _ => none
  | [], b => by
    show stopsOf b = match some [], stopsOf b with | some x, some y => some (x ++ y) | _, _ => none
    cases stopsOf b <;> rfl
  | w :: r, b => by
    show (match stopOf w, stopsOf (r ++ b) with | some n, some ms => some (n :: ms) | _, _ => none) = _
    rw [stopsOf_app r b]
    show _ = match (match stopOf w, stopsOf r with | some n, some ms => some (n :: ms) | _, _ => none), stopsOf b with | some x, some y => some (x ++ y) | _, _ => none
    cases stopOf w <;> cases stopsOf r <;> cases stopsOf b <;> rfl
theorem stopsOf_bad {a b : List (List Nat)} {w : List Nat} (h : stopOf w = none) : stopsOf (a ++ w :: b) = none := by
  rw [stopsOf_app, show stopsOf (w :: b) = match stopOf w, stopsOf b with | some n, some ms => some (n :: ms) | _, _ => none from rfl, h]
  cases stopsOf a <;> rfl
theorem stopsOf_snoc {a : List (List Nat)} {w : List Nat} {ns : List Stp} {n : Stp} (h1 : stopsOf a = some ns) (h2 : stopOf w = some n) : stopsOf (a ++ [w]) = some (ns ++ [n]) := by
  rw [stopsOf_app, h1, show stopsOf [w] = match stopOf w, stopsOf [] with | some n, some ms => some (n :: ms) | _, _ => none from rfl, h2]
  rfl
theorem rowsDay_is {r0 r1 : List Nat} {rs : List (List Nat)} : (roadOf r0 = none → rowsDay (r0 :: r1 :: rs) = none) ∧ (homeOf r1 = none → rowsDay (r0 :: r1 :: rs) = none) ∧ (stopsOf rs = none → rowsDay (r0 :: r1 :: rs) = none) ∧
    ∀ ring len home start sts, roadOf r0 = some (ring, len) → homeOf r1 = some (home, start) → stopsOf rs = some sts → rowsDay (r0 :: r1 :: rs) = some ⟨ring, len, home, start, sts⟩ := by
  refine ⟨fun h => ?_, fun h => ?_, fun h => ?_, fun ring len home start sts h1 h2 h3 => ?_⟩ <;> rw [rowsDay_cons]
  · rw [h]; rfl
  · rw [h]; cases roadOf r0 <;> rfl
  · rw [h]; cases roadOf r0 <;> cases homeOf r1 <;> rfl
  · rw [h1, h2, h3]; rfl
/-! #### the law's way through the rows -/
def namesAt (w4 : List Nat) : Nat → List (List Nat)
  | 0 => [w4]
  | 1 => homeNames
  | _ => stopNames
def goRows (w4 : List Nat) : Nat → List (List Nat) → Option (List Int)
  | _, [] => some []
  | k, r :: rs => match rowOf (namesAt w4 k) (cutAt 32 r), goRows w4 (k + 1) rs with
    | some a, some b => some (a ++ b)
    | _, _ => none
theorem go_stops (w4 : List Nat) : ∀ (rs : List (List Nat)) (k : Nat), goRows w4 (k + 2) rs = (stopsOf rs).map fun sts => sts.flatMap stopI
  | [], k => rfl
  | r :: rs, k => by
    show (match rowOf stopNames (cutAt 32 r), goRows w4 (k + 2 + 1) rs with | some a, some b => some (a ++ b) | _, _ => none) = (match stopOf r, stopsOf rs with | some s, some ss => some (s :: ss) | _, _ => none).map _
    rw [go_stops w4 rs (k + 1)]
    cases e : rowOf stopNames (cutAt 32 r) with
    | none => rw [stopOf_is.1 e]; rfl
    | some ns =>
      obtain ⟨s, rfl, es⟩ := stopOf_is.2 ns e
      rw [es]
      cases stopsOf rs <;> rfl
theorem go_day (r0 r1 : List Nat) (rs : List (List Nat)) (w4 : List Nat) : goRows w4 0 (r0 :: r1 :: rs) = match rowOf [w4] (cutAt 32 r0), homeOf r1, stopsOf rs with
    | some a, some (h, s), some sts => some (a ++ h :: s :: sts.flatMap stopI)
    | _, _, _ => none := by
  show (match rowOf [w4] (cutAt 32 r0), (match rowOf homeNames (cutAt 32 r1), goRows w4 (0 + 2) rs with | some a, some b => some (a ++ b) | _, _ => none) with | some a, some b => some (a ++ b) | _, _ => none) = _
  rw [go_stops]
  cases e : rowOf homeNames (cutAt 32 r1) with
  | none => rw [homeOf_is.1 e]; cases rowOf [w4] (cutAt 32 r0) <;> rfl
  | some ns =>
    obtain ⟨a, b, rfl, eh⟩ := homeOf_is.2 ns e
    rw [eh]
    cases rowOf [w4] (cutAt 32 r0) <;> cases stopsOf rs <;> rfl
/-- the law's way and the other one -/
theorem go_some {rows : List (List Nat)} {d : RawD} (h : rowsDay rows = some d) : ∃ r0 r1 rs, rows = r0 :: r1 :: rs ∧ r0.take 4 = wordL d.ring ∧ goRows (r0.take 4) 0 rows = some (rawI d.len d.home d.start d.sts) := by
  match rows with
  | [] => cases h
  | [_] => cases h
  | r0 :: r1 :: rs =>
    refine ⟨r0, r1, rs, rfl, ?_⟩
    rw [rowsDay_cons] at h
    cases e0 : roadOf r0 with
    | none => rw [e0] at h; cases h
    | some x =>
      obtain ⟨ring, len⟩ := x
      cases e1 : homeOf r1 with
      | none => rw [e0, e1] at h; cases h
      | some y =>
        obtain ⟨home, start⟩ := y
        cases e2 : stopsOf rs with
        | none => rw [e0, e1, e2] at h; cases h
        | some sts =>
          rw [e0, e1, e2] at h
          obtain rfl := Option.some.inj h
          have z := road1_word (roadOf_some e0)
          refine ⟨z, ?_⟩
          rw [z, go_day, road1_some (roadOf_some e0), e1, e2]
          rfl
theorem go_back {r0 r1 : List Nat} {rs : List (List Nat)} {is : List Int} {ring : Bool} (h : goRows (r0.take 4) 0 (r0 :: r1 :: rs) = some is) (hw : r0.take 4 = wordL ring) : ∃ d : RawD, rowsDay (r0 :: r1 :: rs) = some d ∧ d.ring = ring ∧ is = rawI d.len d.home d.start d.sts := by
  rw [hw, go_day] at h
  cases e0 : rowOf [wordL ring] (cutAt 32 r0) with
  | none => rw [e0] at h; cases h
  | some ns =>
    obtain ⟨len, rfl, hn⟩ := road1_is e0
    cases e1 : homeOf r1 with
    | none => rw [e0, e1] at h; cases h
    | some y =>
      obtain ⟨home, start⟩ := y
      cases e2 : stopsOf rs with
      | none => rw [e0, e1, e2] at h; cases h
      | some sts =>
        rw [e0, e1, e2] at h
        exact ⟨_, rowsDay_is.2.2.2 ring len home start sts (roadOf_is hn) e1 e2, rfl, (Option.some.inj h).symm⟩
theorem go_app (w4 : List Nat) : ∀ (a b : List (List Nat)) (k : Nat), goRows w4 k (a ++ b) = match goRows w4 k a, goRows w4 (k + a.length) b with | some x, some y => some (x ++ y) | _, _ => none
  | [], b, k => by
    show goRows w4 k b = match some [], goRows w4 k b with | some x, some y => some (x ++ y) | _, _ => none
    cases goRows w4 k b <;> rfl
  | r :: rs, b, k => by
    show (match rowOf (namesAt w4 k) (cutAt 32 r), goRows w4 (k + 1) (rs ++ b) with | some a, some b => some (a ++ b) | _, _ => none) = match (match rowOf (namesAt w4 k) (cutAt 32 r), goRows w4 (k + 1) rs with | some a, some b => some (a ++ b) | _, _ => none), goRows w4 (k + (rs.length + 1)) b with | some x, some y => some (x ++ y) | _, _ => none
    rw [go_app w4 rs b (k + 1), show k + 1 + rs.length = k + (rs.length + 1) by omega]
    cases rowOf (namesAt w4 k) (cutAt 32 r) <;> cases goRows w4 (k + 1) rs <;> cases goRows w4 (k + (rs.length + 1)) b <;> first | rfl | (simp only [List.append_assoc])
theorem go_at {w4 : List Nat} {rows : List (List Nat)} {k : Nat} {r : List Nat} (h : rows[k]? = some r) : (rowOf (namesAt w4 k) (cutAt 32 r) = none → goRows w4 0 rows = none) ∧
    ∀ done ns, goRows w4 0 (rows.take k) = some done → rowOf (namesAt w4 k) (cutAt 32 r) = some ns → goRows w4 0 (rows.take (k + 1)) = some (done ++ ns) := by
  have hk : k < rows.length := (List.getElem?_eq_some_iff.mp h).1
  have lt : (rows.take k).length = k := by rw [List.length_take]; omega
  have one : ∀ rest, goRows w4 (0 + (rows.take k).length) (r :: rest) = match rowOf (namesAt w4 k) (cutAt 32 r), goRows w4 (k + 1) rest with | some a, some b => some (a ++ b) | _, _ => none := fun rest => by
    rw [lt, Nat.zero_add]
    rfl
  refine ⟨fun e => ?_, fun done ns e1 e2 => ?_⟩
  · have sp : rows = rows.take k ++ r :: rows.drop (k + 1) := by
      have z := List.take_append_drop k rows
      rw [List.drop_eq_getElem_cons hk, (List.getElem?_eq_some_iff.mp h).2] at z
      exact z.symm
    rw [sp, go_app, one, e]
    cases goRows w4 0 (rows.take k) <;> rfl
  · rw [List.take_succ, h]
    show goRows w4 0 (rows.take k ++ [r]) = _
    rw [go_app, one, e1, e2]
    show some (done ++ (ns ++ [])) = _
    rw [List.append_nil]
/-- every number that is read is none below nought -/
def Big (d : RawD) : Prop := 0 ≤ d.len ∧ 0 ≤ d.home ∧ 0 ≤ d.start ∧ ∀ s ∈ d.sts, 0 ≤ s.1 ∧ 0 ≤ s.2.1 ∧ 0 ≤ s.2.2.1 ∧ 0 ≤ s.2.2.2
theorem stops_big : ∀ {rs : List (List Nat)} {sts : List Stp}, stopsOf rs = some sts → sts.length = rs.length ∧ ∀ s ∈ sts, 0 ≤ s.1 ∧ 0 ≤ s.2.1 ∧ 0 ≤ s.2.2.1 ∧ 0 ≤ s.2.2.2
  | [], sts, h => by
    obtain rfl := Option.some.inj h
    exact ⟨rfl, fun s hs => (by cases hs)⟩
  | r :: rs, sts, h => by
    unfold stopsOf at h
    cases e1 : stopOf r with
    | none => rw [e1] at h; cases h
    | some s =>
      cases e2 : stopsOf rs with
      | none => rw [e1, e2] at h; cases h
      | some ss =>
        rw [e1, e2] at h
        obtain rfl := Option.some.inj h
        obtain ⟨i1, i2⟩ := stops_big e2
        refine ⟨by rw [List.length_cons, List.length_cons, i1], fun t ht => ?_⟩
        rcases List.mem_cons.mp ht with rfl | ht
        · cases e3 : rowOf stopNames (cutAt 32 r) with
          | none => rw [stopOf_is.1 e3] at e1; cases e1
          | some ns =>
            obtain ⟨u, rfl, eu⟩ := stopOf_is.2 ns e3
            rw [e1] at eu
            obtain rfl := Option.some.inj eu
            have z := (rowOf_len e3).2.2
            unfold stopI at z
            exact ⟨(z _ (by simp)).1, (z _ (by simp)).1, (z _ (by simp)).1, (z _ (by simp)).1⟩
        · exact i2 t ht
theorem rows_big {rows : List (List Nat)} {d : RawD} (h : rowsDay rows = some d) : Big d ∧ rows.length = d.sts.length + 2 := by
  match rows with
  | [] => cases h
  | [_] => cases h
  | r0 :: r1 :: rs =>
    rw [rowsDay_cons] at h
    cases e0 : roadOf r0 with
    | none => rw [e0] at h; cases h
    | some x =>
      obtain ⟨ring, len⟩ := x
      cases e1 : homeOf r1 with
      | none => rw [e0, e1] at h; cases h
      | some y =>
        obtain ⟨home, start⟩ := y
        cases e2 : stopsOf rs with
        | none => rw [e0, e1, e2] at h; cases h
        | some sts =>
          rw [e0, e1, e2] at h
          obtain rfl := Option.some.inj h
          obtain ⟨b1, b2⟩ := stops_big e2
          have z0 := (rowOf_len (road1_some (roadOf_some e0))).2.2
          cases e3 : rowOf homeNames (cutAt 32 r1) with
          | none => rw [homeOf_is.1 e3] at e1; cases e1
          | some ns =>
            obtain ⟨a, b, rfl, eu⟩ := homeOf_is.2 ns e3
            rw [e1] at eu
            have z1 := (rowOf_len e3).2.2
            have e4 := Prod.mk.inj (Option.some.inj eu)
            refine ⟨⟨(z0 len (by simp)).1, ?_, ?_, b2⟩, by rw [List.length_cons, List.length_cons, b1]⟩
            · show 0 ≤ home
              rw [e4.1]; exact (z1 a (by simp)).1
            · show 0 ≤ start
              rw [e4.2]; exact (z1 b (by simp)).1

/-! ### replace, a text so many times, the greatest of three -/
open PySem.Builtin PySem.Builtin.Str in
theorem gives_replace1 (x y z : Str) (t u v k : Tok) (hu : (u == 0 || v == 0) = false) (huv : (u == v) = false) (hyz : (y == z) = false) (hl : tooLong (x.length + (occurrences x y 0 x.length 1).length * z.length) = false) :
    Gives («str.replace» ⟨[.str x t, .str y u, .str z v, .int 1 k], []⟩) (if ((occurrences x y 0 x.length 1).isEmpty || (y.length == 0 && z.length == 0)) = true then .val (.str x t) else .str (glued z (partsBetween x (occurrences x y 0 x.length 1) y.length))) := by
  show Gives (do
    let i ← asSsize "str.replace" (.int 1 k)
    let limit ← (pure (if i < 0 then x.length + 1 else i.toNat) : Sem Nat)
    if ((occurrences x y 0 x.length limit).isEmpty || (y.length == 0 && z.length == 0)) = true then (do rule "str.replace.nothing"; ret (.str x t)) else
          (do let same ← isSame (.str y u) (.str z v)
              if same = true then (do rule "str.replace.old-is-new"; ret (.str x t)) else
              if tooLong (x.length + (occurrences x y 0 x.length limit).length * z.length) = true then unsupported "str.replace:memory" else
              retStr (glued z (partsBetween x (occurrences x y 0 x.length limit) y.length)))) _
  rw [asSsize_int _ _ _ (by decide)]
  show Gives (if ((occurrences x y 0 x.length 1).isEmpty || (y.length == 0 && z.length == 0)) = true then (do rule "str.replace.nothing"; ret (.str x t)) else
          (do let same ← isSame (.str y u) (.str z v)
              if same = true then (do rule "str.replace.old-is-new"; ret (.str x t)) else
              if tooLong (x.length + (occurrences x y 0 x.length 1).length * z.length) = true then unsupported "str.replace:memory" else
              retStr (glued z (partsBetween x (occurrences x y 0 x.length 1) y.length)))) _
  cases hc : ((occurrences x y 0 x.length 1).isEmpty || (y.length == 0 && z.length == 0))
  · rw [isSame_str_other y z u v hu huv hyz, hl]
    exact .of_eq rfl
  · exact .rule (.of_eq rfl)
open PySem.Builtin PySem.Builtin.Str in
/-- the signs of a text that is put together -/
theorem glued_mem (z : Str) : ∀ (ps : List Str) (c : Nat), c ∈ tl (glued z ps) → (∃ p ∈ ps, c ∈ tl p) ∨ c ∈ tl z := by
  intro ps c h
  have key : ∀ (r : List Str) (acc : Array Nat), c ∈ (r.foldl (fun acc p => acc ++ z.cps ++ p.cps) acc).toList → c ∈ acc.toList ∨ (∃ p ∈ r, c ∈ tl p) ∨ c ∈ tl z := by
    intro r
    induction r with
    | nil => exact fun acc h => .inl h
    | cons p r ih =>
      intro acc h
      rcases ih _ h with h | ⟨q, hq, h⟩ | h
      · rw [Array.toList_append, Array.toList_append] at h
        rcases List.mem_append.mp h with h | h
        · exact (List.mem_append.mp h).elim .inl fun h => .inr (.inr h)
        · exact .inr (.inl ⟨p, List.mem_cons_self .., h⟩)
      · exact .inr (.inl ⟨q, List.mem_cons_of_mem _ hq, h⟩)
      · exact .inr (.inr h)
  rcases key (ps.drop 1) _ h with h | ⟨q, hq, h⟩ | h
  · cases ps with
    | nil => cases h
    | cons p r => exact .inl ⟨p, List.mem_cons_self .., h⟩
  · exact .inl ⟨q, List.mem_of_mem_drop hq, h⟩
  · exact .inr h
open PySem.Builtin PySem.Builtin.Str in
theorem parts_mem {x : Str} {cuts : List Nat} {k : Nat} {p : Str} (hp : p ∈ partsBetween x cuts k) {c : Nat} (h : c ∈ tl p) : c ∈ tl x := by
  unfold partsBetween at hp
  obtain ⟨⟨i, j⟩, _, rfl⟩ := List.mem_map.mp hp
  rw [TL.tl_strSub] at h
  exact List.mem_of_mem_drop (List.mem_of_mem_take h)
theorem replace_mem {x y z : Str} {c : Nat} (h : c ∈ tl (Txt.replace x y z)) : c ∈ tl x ∨ c ∈ tl z := by
  unfold Txt.replace at h
  split at h
  · exact .inl h
  · rcases glued_mem _ _ _ h with ⟨p, hp, h⟩ | h
    · exact .inl (parts_mem hp h)
    · exact .inr h
open PySem.Builtin PySem.Builtin.Str in
theorem glued_size (x y z : Str) (lim : Nat) : (glued z (partsBetween x (occurrences x y 0 x.length lim) y.length)).length ≤ x.length + lim * z.length := by
  have h1 := PySem.StrLaws.occ_length_le x y 0 x.length lim
  have hy := congrArg Str.length (PySem.StrLaws.glued_between_self x y lim)
  rw [PySem.size_glued, PySem.length_partsBetween, Nat.add_sub_cancel] at hy ⊢
  have h2 : (occurrences x y 0 x.length lim).length * z.length ≤ lim * z.length := Nat.mul_le_mul_right _ h1
  omega
theorem replace_size (x y z : Str) : (Txt.replace x y z).length ≤ x.length + (x.length + 1) * z.length := by
  unfold Txt.replace
  split
  · omega
  · exact glued_size x y z _
def tRepl1 (to : TE) (z : Str) : TE := fun σ H Q => to σ H fun v H1 => ∃ x, v = .str x ∧ x.length + z.length ≤ sizeLine ∧ ∀ r : Str, (∀ c ∈ tl r, c ∈ tl x ∨ c ∈ tl z) → r.length ≤ x.length + z.length → Q (.str r) H1
/-- e.replace(y, z, 1) of written texts -/
theorem pet_repl1 {X : Cx} {o : Expr} {to : TE} {y z : Str} {j k m : Nat} {c0 c1 c2 apos pos : Pos} (ho : PE X o to) (hyz : (y == z) = false := by decide)
    (hst : starEach [.Constant (.str y) j c0, .Constant (.str z) k c1, .Constant (.int 1) m c2] X.env = [(false, eval (.Constant (.str y) j c0) X.env), (false, eval (.Constant (.str z) k c1) X.env), (false, eval (.Constant (.int 1) m c2) X.env)] := by rfl)
    (hbase : attributeBase o "replace" X.env (eval o X.env) = eval o X.env := by rfl) (hline : (apos.endLine == pos.line) = true := by rfl) :
    L2.PET X (.Call (.Attribute o "replace" apos) [.Constant (.str y) j c0, .Constant (.str z) k c1, .Constant (.int 1) m c2] [] pos) (tRepl1 to z) := by
  intro pins s σ H Q h0 I h
  refine PySem.wpAny_Call_method_lateS hbase (by rw [hst]; rfl) hline ?_
  rw [hst]
  refine wpAny_mono (PySem.wpAny_toks (ho.run pins s σ H _ I h)) (fun v s1 q => ?_) fun _ _ z => z.2
  obtain ⟨hk, v', H1, I1, r1, x, ex, hb, q⟩ := q
  subst ex
  obtain ⟨tx, et⟩ := r1
  subst et
  refine ⟨"str", _, PySem.F.plainAttrs_str, PySem.F.slot_str_replace, PySem.F.type_str_replace, typeIs_str _ _ _, (fun _ e => nomatch e), Calls.callWith_builtin rfl (Calls.evalArgs_plain (Calls.spliced_cons ?_))⟩
  refine Calls.Constant_str (k := j) (pos := c0) ?_
  refine Calls.spliced_cons (Calls.Constant_str (k := k) (pos := c1) ?_)
  refine Calls.spliced_cons (wpAny_Constant_int (k := m) (pos := c2) ?_)
  refine Calls.spliced_nil ?_
  have n1 : (s1.toks == 0 || s1.toks + 1 == 0) = false := by
    have a1 : (s1.toks == 0) = false := beq_eq_false_iff_ne.mpr (by omega)
    have a2 : (s1.toks + 1 == 0) = false := beq_eq_false_iff_ne.mpr (by omega)
    rw [a1, a2]; rfl
  have n2 : (s1.toks == s1.toks + 1) = false := beq_eq_false_iff_ne.mpr (by omega)
  have lim := PySem.StrLaws.occ_length_le x y 0 x.length 1
  have tl_ : PySem.Builtin.Str.tooLong (x.length + (PySem.Builtin.Str.occurrences x y 0 x.length 1).length * z.length) = false := by
    have z2 : (PySem.Builtin.Str.occurrences x y 0 x.length 1).length * z.length ≤ 1 * z.length := Nat.mul_le_mul_right _ lim
    unfold PySem.Builtin.Str.tooLong
    exact decide_eq_false (by omega)
  refine call_gives PySem.F.slot_str_replace (typeIs_str _ _ _) PySem.F.entry_str_replace (PySem.F.args_str_replace_4 _ _ _ _) (gives_replace1 x y z tx s1.toks (s1.toks + 1) (s1.toks + 1 + 1) n1 n2 hyz tl_) ?_
  split
  · exact ⟨.str x, H1, I1.tok _, ⟨tx, rfl⟩, q x (fun c hc => .inl hc) (by omega)⟩
  · have sz := glued_size x y z 1
    refine ⟨by omega, ⟨.str _, H1, I1.tok _, ⟨_, rfl⟩, q _ (fun c hc => ?_) (by omega)⟩⟩
    rcases glued_mem _ _ _ hc with ⟨p, hp, hc⟩ | hc
    · exact .inl (parts_mem hp hc)
    · exact .inr hc
/-- behind a test against a written number a token is out -/
theorem ps_ifT {X : Cx} {op : CmpOp} {a : Expr} {i : Int} {k : Nat} {p pos pos' : Pos} {body other : List Stmt} {r : R2} {ta : TE} {t u : TS} (ho : OpR X (compareOp op) r) (ha : PE X a ta) (hm : behindInMarks op (.Constant (.int i) k p) = false) (hb : L2.PSsT X body t) (hu : PSs X other u) :
    PS X (.If (.Compare a [op] [.Constant (.int i) k p] pos) body other pos') (tIfS (tTest (tOp r ta (tC (.int i)))) t u) := by
  refine ⟨fun pins s σ H D I hw => ?_⟩
  refine wpAny_If ?_
  refine wpAny_isTrue_Compare1 (thn (ha.run pins s σ H _ I hw) fun v s1 ⟨x, H1, I1, r1, q1⟩ => wpAny_Constant_int ?_) hm
  have one : 1 ≤ (s1.toks + 1) := by omega
  refine wpAny_with_toks (s := { s1 with toks := s1.toks + 1 }) one ?_
  refine wpAny_mono (ho pins _ σ H1 x (.int i) v _ _ (I1.tok (s1.toks + 1)) r1 ⟨_, rfl⟩ q1) (fun c s3 ⟨z, H3, I3, r3, b, e, q3⟩ h1 => ?_) fun _ _ z _ => z
  subst e
  cases r3
  refine wpAny_truthy_bool ?_
  cases b with
  | true => exact hb pins s3 σ H3 D h1 I3 q3
  | false => exact hu.run pins s3 σ H3 D I3 q3
/-! a text so many times -/
def rRepS : R2 := fun x y H Q => ∃ (a : Str) (n : Int), x = .str a ∧ y = .int n ∧ 2 ≤ n ∧ n < 100000 ∧ 1 ≤ a.length ∧ a.length * n.toNat ≤ sizeLine ∧ Q (.str ⟨(List.replicate n.toNat a.cps).foldl (· ++ ·) #[]⟩) H
theorem rep_toList (a : Array Nat) : ∀ (n : Nat) (acc : Array Nat), ((List.replicate n a).foldl (· ++ ·) acc).toList = acc.toList ++ (List.replicate n a.toList).flatten
  | 0, acc => by simp
  | n + 1, acc => by
    rw [List.replicate_succ, List.foldl_cons, rep_toList a n, List.replicate_succ, List.flatten_cons, Array.toList_append, List.append_assoc]
theorem flat_len2 (a : List Nat) : ∀ n : Nat, (List.replicate n a).flatten.length = a.length * n
  | 0 => rfl
  | n + 1 => by rw [List.replicate_succ, List.flatten_cons, List.length_append, flat_len2 a n, Nat.mul_succ]; omega
theorem op_repS {X : Cx} : OpR X (binaryOp .Mult) rRepS := by
  intro pins s σ H x y v u Q I rx ry h
  obtain ⟨a, n, rfl, rfl, n1, n2, n3, n4, q⟩ := h
  obtain ⟨t, rfl⟩ := rx
  obtain ⟨t2, rfl⟩ := ry
  have hn : ¬ n < 1 := by omega
  have e1 : (n == 1 || a.length == 0) = false := by
    have a1 : (n == 1) = false := beq_eq_false_iff_ne.mpr (by omega)
    have a2 : (a.length == 0) = false := beq_eq_false_iff_ne.mpr (by omega)
    rw [a1, a2]; rfl
  have hi : (decide (n < -(2 ^ 63 : Int)) || decide (n ≥ 2 ^ 63)) = false := by
    rw [decide_eq_false (by omega), decide_eq_false (by omega)]; rfl
  refine PySem.P.mul_str hi (fun _ _ => ?_) (fun _ _ => ?_) ?_
  · have s16 : a.length ≤ 16777216 := by
      have z := Nat.le_mul_of_pos_right a.length (show 0 < n.toNat by omega)
      rw [sizeLine_eq] at n4
      omega
    have d : (16777216 : Int) ≤ (2 ^ 63 - 1) / n := Int.le_ediv_of_mul_le (by omega) (by omega)
    omega
  · unfold PySem.Builtin.Str.tooLong
    exact decide_eq_false (by omega)
  · rw [if_neg hn, if_neg (by rw [e1]; exact Bool.false_ne_true)]
    refine ⟨?_, ⟨.str _, H, I.tok _, ⟨_, rfl⟩, q⟩⟩
    rw [len_tl]
    show ((List.replicate n.toNat a.cps).foldl (· ++ ·) #[]).toList.length ≤ _
    rw [rep_toList, List.nil_append, flat_len2]
    exact n4
theorem rg4g {m : Nat} (h : m < 4000000) : (4 : Int) ≠ 0 ∧ (4 : Int).natAbs < 1073741824 ∧ Builtin.Range.small 4 (4 + 4 * (m : Int)) 4 = true ∧ Builtin.Range.rangeSize 4 (4 + 4 * (m : Int)) 4 = m := by
  have e : Builtin.Range.rangeSize 4 (4 + 4 * (m : Int)) 4 = m := by
    unfold Builtin.Range.rangeSize
    rw [if_pos (by decide)]
    split <;> omega
  have fit : ∀ i : Int, 0 ≤ i → i < 100000000 → Builtin.Range.rangeFitsLong i = true := fun i h0 h1 => by
    unfold Builtin.Range.rangeFitsLong
    rw [Bool.and_eq_true]
    exact ⟨decide_eq_true (by omega), decide_eq_true (by omega)⟩
  refine ⟨by decide, by decide, ?_, e⟩
  unfold Builtin.Range.small
  rw [e, fit 4 (by decide) (by decide), fit (4 + 4 * (m : Int)) (by omega) (by omega), fit m (by omega) (by omega), if_pos (by decide), fit (4 + 4 * (m : Int) + (4 - 1)) (by omega) (by omega), Bool.or_true]
  rfl
theorem max3_int (a b c : Int) : ∃ m : Int, nuMax3 (.int a) (.int b) (.int c) = some (.int m) ∧ ∀ t : Int, (m ≤ t ↔ a ≤ t ∧ b ≤ t ∧ c ≤ t) := by
  refine ⟨if (if a < b then b else a) < c then c else if a < b then b else a, ?_, fun t => by split <;> split <;> omega⟩
  show (nuMax2 (.int a) (.int b)).bind _ = _
  have two : ∀ x y : Int, nuMax2 (.int x) (.int y) = some (.int (if x < y then y else x)) := fun x y => by
    show some (if decide (x < y) = true then V.int y else V.int x) = _
    by_cases h : x < y
    · rw [if_pos h, if_pos (decide_eq_true h)]
    · rw [if_neg h, if_neg (by rw [decide_eq_false h]; exact Bool.false_ne_true)]
  rw [two]
  exact two _ _

theorem szB {n : Nat} (h : n ≤ 16000000) : n ≤ sizeLine := by rw [sizeLine_eq]; omega
theorem szb {n : Nat} (h : n < 16000000) : n < sizeLine := by rw [sizeLine_eq]; omega
theorem lead0_48 {l r : List Nat} (e : l = 48 :: r) (h : lead0 l = false) : l = [48] := by
  subst e
  cases r with
  | nil => rfl
  | cons a b => cases h
theorem lead0_ne {l r : List Nat} {a : Nat} (e : l = a :: r) (h : a ≠ 48) : lead0 l = false := by
  subst e
  unfold lead0
  split
  · rename_i z
    exact absurd (List.cons.inj z).1 h
  · rfl
theorem strs_eqvAll : ∀ a b : List (List Nat), PyData.eqvAll (a.map fun x => PyData.str (S x)) (b.map fun x => PyData.str (S x)) = decide (a = b)
  | [], [] => by simp [PyData.eqvAll]
  | [], _ :: _ => by simp [PyData.eqvAll]
  | _ :: _, [] => by simp [PyData.eqvAll]
  | x :: a, y :: b => by
    have ih := strs_eqvAll a b
    simp only [List.map_cons, PyData.eqvAll, PyData.eqv, ih]
    by_cases h : x = y
    · subst h
      rw [show (S x == S x) = true from beq_self_eq_true _, Bool.true_and]
      exact dec_eq ⟨fun z => by rw [z], fun z => (List.cons.inj z).2⟩
    · rw [show (S x == S y) = false from beq_eq_false_iff_ne.mpr fun z => h (S_inj z), Bool.false_and, decide_eq_false fun z => h (List.cons.inj z).1]
theorem strs_eqv (a b : List (List Nat)) : PyData.eqv (strsD a) (strsD b) = decide (a = b) := by
  unfold strsD
  rw [PyData.eqv]
  exact strs_eqvAll a b
theorem toS {n : Int} (h : 0 ≤ n) : (Str.ofString (toString n)) = S (num n) := S_num h
theorem asc_num {n : Int} : Asc (num n) := fun c hc => by have := num_digit hc; omega
theorem S_of (x : Str) : x = S (tl x) := (S_tl x).symm
theorem asc_lit {x : Str} (h : (tl x).all (fun c => decide (c < 128)) = true) : Asc (tl x) := fun c hc => of_decide_eq_true (List.all_eq_true.mp h c hc)
theorem rep_ok (a : Str) (n : Nat) : ∃ l : List Nat, (⟨(List.replicate n a.cps).foldl (· ++ ·) #[]⟩ : Str) = S l ∧ (∀ c ∈ l, c ∈ tl a) ∧ l.length = a.length * n := by
  refine ⟨(List.replicate n (tl a)).flatten, ?_, fun c hc => ?_, ?_⟩
  · refine ext_tl ?_
    show ((List.replicate n a.cps).foldl (· ++ ·) #[]).toList = _
    rw [rep_toList]
    exact List.nil_append _
  · obtain ⟨p, hp, h⟩ := List.mem_flatten.mp hc
    rw [(List.mem_replicate.mp hp).2] at h
    exact h
  · rw [flat_len2, len_tl]
theorem nines : ∃ l : List Nat, (⟨(List.replicate (5000 : Int).toNat (Str.ofString "9").cps).foldl (· ++ ·) #[]⟩ : Str) = S l ∧ Asc l ∧ l.length ≤ 5000 := by
  obtain ⟨l, h1, h2, h3⟩ := rep_ok (Str.ofString "9") (5000 : Int).toNat
  have e : tl (Str.ofString "9") = [57] := by decide +kernel
  refine ⟨l, h1, fun c hc => ?_, ?_⟩
  · have z := h2 c hc
    rw [e] at z
    obtain rfl := List.mem_singleton.mp z
    decide
  · have e2 : (Str.ofString "9").length = 1 := by decide +kernel
    have e3 : (5000 : Int).toNat = 5000 := by decide
    rw [h3, e2, e3, Nat.one_mul]
    exact Nat.le_refl _
theorem odd_ok {l9 : List Nat} (a9 : Asc l9) (n9 : l9.length ≤ 5000) : ∀ x ∈ [(Str.ofString "1234567890123456"), S l9, (Str.ofString "999999999999999"), (Str.ofString "007"), (Str.ofString "00"), (Str.ofString "0"), (Str.ofString "1000000000001"), (Str.ofString "10000000000000")], Asc (tl x) ∧ (tl x).length ≤ 5000 := by
  have lit : ∀ x ∈ [(Str.ofString "1234567890123456"), (Str.ofString "999999999999999"), (Str.ofString "007"), (Str.ofString "00"), (Str.ofString "0"), (Str.ofString "1000000000001"), (Str.ofString "10000000000000")], ((tl x).all (fun c => decide (c < 128)) && decide ((tl x).length ≤ 5000)) = true := by decide +kernel
  intro x hx
  rcases List.mem_cons.mp hx with rfl | hx
  · have z := lit _ (List.mem_cons_self ..)
    rw [Bool.and_eq_true] at z
    exact ⟨asc_lit z.1, of_decide_eq_true z.2⟩
  rcases List.mem_cons.mp hx with rfl | hx
  · exact ⟨a9, n9⟩
  · have z := lit x (List.mem_cons_of_mem _ hx)
    rw [Bool.and_eq_true] at z
    exact ⟨asc_lit z.1, of_decide_eq_true z.2⟩
theorem str_at {P : Str → Prop} {xs : List Str} {i : Int} (h : ∀ x ∈ xs, P x) (h0 : 0 ≤ i) (h1 : i < xs.length) : ∃ x, atI (xs.map V.str) i = some (.str x) ∧ P x := by
  obtain ⟨v, hv, hv2⟩ := atI_lt (xs := xs.map V.str) h0 (by rw [List.length_map]; exact h1)
  rw [List.getElem?_map] at hv2
  cases e : xs[i.toNat]? with
  | none => rw [e] at hv2; cases hv2
  | some x =>
    rw [e] at hv2
    exact ⟨x, hv.trans (by rw [← Option.some.inj hv2]), h x (List.mem_of_getElem? e)⟩
def AscS (x : Str) (n : Nat) : Prop := Asc (tl x) ∧ x.length ≤ n
theorem AscS.app {x y : Str} {n m : Nat} (hx : AscS x n) (hy : AscS y m) : AscS (x ++ y) (n + m) := ⟨by rw [tl_append]; exact hx.1.app hy.1, by rw [Str.length_append]; have := hx.2; have := hy.2; omega⟩
theorem AscS.mono {x : Str} {n m : Nat} (hx : AscS x n) (h : n ≤ m) : AscS x m := ⟨hx.1, Nat.le_trans hx.2 h⟩
theorem AscS.ofS {l : List Nat} {n : Nat} (h : Asc l) (hn : l.length ≤ n) : AscS (S l) n := ⟨h, by rw [S_len]; exact hn⟩
theorem ascLit {x : Str} {n : Nat} (h : ((tl x).all (fun c => decide (c < 128)) && decide ((tl x).length ≤ n)) = true) : AscS x n := by
  rw [Bool.and_eq_true] at h
  exact ⟨asc_lit h.1, by rw [len_tl]; exact of_decide_eq_true h.2⟩
theorem szApp {x y : Str} {n m : Nat} (hx : AscS x n) (hy : AscS y m) (h : n + m ≤ 16000000) : x.length + y.length ≤ sizeLine := szB (Nat.le_trans (Nat.add_le_add hx.2 hy.2) h)
/-! ### what the top has left -/
structure Txt (K : PySem.W.Frag) (mg : Str → Option Value) (D : Str → FuncData) : Prop where
  F_is_road : FunD K "is_road" "is_road" (defArgs s_is_road) (defBody s_is_road) (defScope s_is_road) [] [] (He.ga K "is_road") (D "is_road")
  m_is_road : mg "is_road" = some (.ref (He.ga K "is_road"))
  b_is_road : Binds K (D "is_road") ["road"] []
  F_has_place : FunD K "has_place" "has_place" (defArgs s_has_place) (defBody s_has_place) (defScope s_has_place) [] [] (He.ga K "has_place") (D "has_place")
  m_has_place : mg "has_place" = some (.ref (He.ga K "has_place"))
  b_has_place : Binds K (D "has_place") ["road", "place"] []
  F_is_time : FunD K "is_time" "is_time" (defArgs s_is_time) (defBody s_is_time) (defScope s_is_time) [] [] (He.ga K "is_time") (D "is_time")
  m_is_time : mg "is_time" = some (.ref (He.ga K "is_time"))
  b_is_time : Binds K (D "is_time") ["number"] []
  F_check_stop : FunD K "check_stop" "check_stop" (defArgs s_check_stop) (defBody s_check_stop) (defScope s_check_stop) [] [] (He.ga K "check_stop") (D "check_stop")
  m_check_stop : mg "check_stop" = some (.ref (He.ga K "check_stop"))
  b_check_stop : Binds K (D "check_stop") ["road", "stop"] []
  F_check_day : FunD K "check_day" "check_day" (defArgs s_check_day) (defBody s_check_day) (defScope s_check_day) [] [] (He.ga K "check_day") (D "check_day")
  m_check_day : mg "check_day" = some (.ref (He.ga K "check_day"))
  b_check_day : Binds K (D "check_day") ["road", "home", "start", "stops"] []
  F_Day___init : FunD K "__init__" "Day.__init__" (defArgs s_Day___init) (defBody s_Day___init) (defScope s_Day___init) [] [] (He.ma K (He.ga K "Day") "__init__") (D "Day.__init__")
  b_Day___init : Binds K (D "Day.__init__") ["self", "road", "home", "start", "stops"] []
  F_number_of : FunD K "number_of" "number_of" (defArgs s_number_of) (defBody s_number_of) (defScope s_number_of) [] [] (He.ga K "number_of") (D "number_of")
  m_number_of : mg "number_of" = some (.ref (He.ga K "number_of"))
  b_number_of : Binds K (D "number_of") ["word"] []
  F_numbers_of : FunD K "numbers_of" "numbers_of" (defArgs s_numbers_of) (defBody s_numbers_of) (defScope s_numbers_of) [] [] (He.ga K "numbers_of") (D "numbers_of")
  m_numbers_of : mg "numbers_of" = some (.ref (He.ga K "numbers_of"))
  b_numbers_of : Binds K (D "numbers_of") ["row", "names"] []
  F_road_of : FunD K "road_of" "road_of" (defArgs s_road_of) (defBody s_road_of) (defScope s_road_of) [] [] (He.ga K "road_of") (D "road_of")
  m_road_of : mg "road_of" = some (.ref (He.ga K "road_of"))
  b_road_of : Binds K (D "road_of") ["row"] []
  F_read : FunD K "read" "read" (defArgs s_read) (defBody s_read) (defScope s_read) [] [] (He.ga K "read") (D "read")
  m_read : mg "read" = some (.ref (He.ga K "read"))
  b_read : Binds K (D "read") ["text"] []
  F_law_cell_at : FunD K "_law_cell_at" "_law_cell_at" (defArgs s_law_cell_at) (defBody s_law_cell_at) (defScope s_law_cell_at) [] [] (He.ga K "_law_cell_at") (D "_law_cell_at")
  m_law_cell_at : mg "_law_cell_at" = some (.ref (He.ga K "_law_cell_at"))
  b_law_cell_at : Binds K (D "_law_cell_at") ["_law_script", "_law_k"] []
  F_law_spoilt : FunD K "_law_spoilt" "_law_spoilt" (defArgs s_law_spoilt) (defBody s_law_spoilt) (defScope s_law_spoilt) [] [] (He.ga K "_law_spoilt") (D "_law_spoilt")
  m_law_spoilt : mg "_law_spoilt" = some (.ref (He.ga K "_law_spoilt"))
  b_law_spoilt : Binds K (D "_law_spoilt") ["_law_text", "_law_cell", "_law_by"] []
  F_law_number : FunD K "_law_number" "_law_number" (defArgs s_law_number) (defBody s_law_number) (defScope s_law_number) [] [] (He.ga K "_law_number") (D "_law_number")
  m_law_number : mg "_law_number" = some (.ref (He.ga K "_law_number"))
  b_law_number : Binds K (D "_law_number") ["_law_cell", "_law_first", "_law_many"] []
  F_law_text_by : FunD K "_law_text_by" "_law_text_by" (defArgs s_law_text_by) (defBody s_law_text_by) (defScope s_law_text_by) [] [] (He.ga K "_law_text_by") (D "_law_text_by")
  m_law_text_by : mg "_law_text_by" = some (.ref (He.ga K "_law_text_by"))
  b_law_text_by : Binds K (D "_law_text_by") ["_law_script"] []
  F_law_read_number : FunD K "_law_read_number" "_law_read_number" (defArgs s_law_read_number) (defBody s_law_read_number) (defScope s_law_read_number) [] [] (He.ga K "_law_read_number") (D "_law_read_number")
  m_law_read_number : mg "_law_read_number" = some (.ref (He.ga K "_law_read_number"))
  b_law_read_number : Binds K (D "_law_read_number") ["_law_word"] []
  F_law_read_row : FunD K "_law_read_row" "_law_read_row" (defArgs s_law_read_row) (defBody s_law_read_row) (defScope s_law_read_row) [] [] (He.ga K "_law_read_row") (D "_law_read_row")
  m_law_read_row : mg "_law_read_row" = some (.ref (He.ga K "_law_read_row"))
  b_law_read_row : Binds K (D "_law_read_row") ["_law_row", "_law_names"] []
  F_law_raw : FunD K "_law_raw" "_law_raw" (defArgs s_law_raw) (defBody s_law_raw) (defScope s_law_raw) [] [] (He.ga K "_law_raw") (D "_law_raw")
  m_law_raw : mg "_law_raw" = some (.ref (He.ga K "_law_raw"))
  b_law_raw : Binds K (D "_law_raw") ["_law_text"] []
  F_law_off : FunD K "_law_off" "_law_off" (defArgs s_law_off) (defBody s_law_off) (defScope s_law_off) [] [] (He.ga K "_law_off") (D "_law_off")
  m_law_off : mg "_law_off" = some (.ref (He.ga K "_law_off"))
  b_law_off : Binds K (D "_law_off") ["_law_raw_here", "_law_place"] []
  F_law_due : FunD K "_law_due" "_law_due" (defArgs s_law_due) (defBody s_law_due) (defScope s_law_due) [] [] (He.ga K "_law_due") (D "_law_due")
  m_law_due : mg "_law_due" = some (.ref (He.ga K "_law_due"))
  b_law_due : Binds K (D "_law_due") ["_law_raw_here"] []
  F_law_came : FunD K "_law_came" "_law_came" (defArgs s_law_came) (defBody s_law_came) (defScope s_law_came) [] [] (He.ga K "_law_came") (D "_law_came")
  m_law_came : mg "_law_came" = some (.ref (He.ga K "_law_came"))
  b_law_came : Binds K (D "_law_came") ["_law_text"] []
  F_law_based : FunD K "_law_based" "_law_based" (defArgs s_law_based) (defBody s_law_based) (defScope s_law_based) [] [] (He.ga K "_law_based") (D "_law_based")
  m_law_based : mg "_law_based" = some (.ref (He.ga K "_law_based"))
  b_law_based : Binds K (D "_law_based") ["_law_text"] []
  F_law : FunD K "law" "law" (defArgs s_law) (defBody s_law) (defScope s_law) [] [] (He.ga K "law") (D "law")
  m_law : mg "law" = some (.ref (He.ga K "law"))
  b_law : Binds K (D "law") ["_law_script"] []
  m_RouteError : mg "RouteError" = some (.ref (He.ga K "RouteError"))
  x_RouteError : PySem.W.excIn K (He.ga K "RouteError") He.veBase "ValueError.__new__" = true
  kp_RouteError : PySem.W.keepIn K (.ref (He.ga K "RouteError")) = true
  sb_RouteError : PySem.W.subIn K (.ref (He.ga K "RouteError")) (.type "BaseException") = some true
  ty_RouteError : PySem.W.typeIn K (.ref (He.ga K "RouteError")) = some (.type "type")
  m_BadRoad : mg "BadRoad" = some (.ref (He.ga K "BadRoad"))
  x_BadRoad : PySem.W.excIn K (He.ga K "BadRoad") He.veBase "ValueError.__new__" = true
  kp_BadRoad : PySem.W.keepIn K (.ref (He.ga K "BadRoad")) = true
  sb_BadRoad : PySem.W.subIn K (.ref (He.ga K "BadRoad")) (.type "BaseException") = some true
  ty_BadRoad : PySem.W.typeIn K (.ref (He.ga K "BadRoad")) = some (.type "type")
  m_OffRoad : mg "OffRoad" = some (.ref (He.ga K "OffRoad"))
  x_OffRoad : PySem.W.excIn K (He.ga K "OffRoad") He.veBase "ValueError.__new__" = true
  kp_OffRoad : PySem.W.keepIn K (.ref (He.ga K "OffRoad")) = true
  sb_OffRoad : PySem.W.subIn K (.ref (He.ga K "OffRoad")) (.type "BaseException") = some true
  ty_OffRoad : PySem.W.typeIn K (.ref (He.ga K "OffRoad")) = some (.type "type")
  m_BadTime : mg "BadTime" = some (.ref (He.ga K "BadTime"))
  x_BadTime : PySem.W.excIn K (He.ga K "BadTime") He.veBase "ValueError.__new__" = true
  kp_BadTime : PySem.W.keepIn K (.ref (He.ga K "BadTime")) = true
  sb_BadTime : PySem.W.subIn K (.ref (He.ga K "BadTime")) (.type "BaseException") = some true
  ty_BadTime : PySem.W.typeIn K (.ref (He.ga K "BadTime")) = some (.type "type")
  m_TooMany : mg "TooMany" = some (.ref (He.ga K "TooMany"))
  x_TooMany : PySem.W.excIn K (He.ga K "TooMany") He.veBase "ValueError.__new__" = true
  kp_TooMany : PySem.W.keepIn K (.ref (He.ga K "TooMany")) = true
  sb_TooMany : PySem.W.subIn K (.ref (He.ga K "TooMany")) (.type "BaseException") = some true
  ty_TooMany : PySem.W.typeIn K (.ref (He.ga K "TooMany")) = some (.type "type")
  m_NoDay : mg "NoDay" = some (.ref (He.ga K "NoDay"))
  x_NoDay : PySem.W.excIn K (He.ga K "NoDay") He.veBase "ValueError.__new__" = true
  kp_NoDay : PySem.W.keepIn K (.ref (He.ga K "NoDay")) = true
  sb_NoDay : PySem.W.subIn K (.ref (He.ga K "NoDay")) (.type "BaseException") = some true
  ty_NoDay : PySem.W.typeIn K (.ref (He.ga K "NoDay")) = some (.type "type")
  m_Day : mg "Day" = some (.ref (He.ga K "Day"))
  cl_Day : Cls K (He.ga K "Day")
  k_Day : Mk K (He.ga K "Day") (He.ma K (He.ga K "Day") "__init__")
  na_Day_home : NoAttr K (He.ga K "Day") "home"
  na_Day_road : NoAttr K (He.ga K "Day") "road"
  na_Day_start : NoAttr K (He.ga K "Day") "start"
  na_Day_stops : NoAttr K (He.ga K "Day") "stops"
  e_OffRoad_NoDay : PySem.W.exmOne K (.ref (He.ga K "OffRoad")) (.ref (He.ga K "NoDay")) = some false
  e_OffRoad_BadRoad : PySem.W.exmOne K (.ref (He.ga K "OffRoad")) (.ref (He.ga K "BadRoad")) = some false
  e_OffRoad_OffRoad : PySem.W.exmOne K (.ref (He.ga K "OffRoad")) (.ref (He.ga K "OffRoad")) = some true
  e_OffRoad_BadTime : PySem.W.exmOne K (.ref (He.ga K "OffRoad")) (.ref (He.ga K "BadTime")) = some false
  e_OffRoad_TooMany : PySem.W.exmOne K (.ref (He.ga K "OffRoad")) (.ref (He.ga K "TooMany")) = some false
  e_OffRoad_RouteError : PySem.W.exmOne K (.ref (He.ga K "OffRoad")) (.ref (He.ga K "RouteError")) = some true
  e_BadTime_NoDay : PySem.W.exmOne K (.ref (He.ga K "BadTime")) (.ref (He.ga K "NoDay")) = some false
  e_BadTime_BadRoad : PySem.W.exmOne K (.ref (He.ga K "BadTime")) (.ref (He.ga K "BadRoad")) = some false
  e_BadTime_OffRoad : PySem.W.exmOne K (.ref (He.ga K "BadTime")) (.ref (He.ga K "OffRoad")) = some false
  e_BadTime_BadTime : PySem.W.exmOne K (.ref (He.ga K "BadTime")) (.ref (He.ga K "BadTime")) = some true
  e_BadTime_TooMany : PySem.W.exmOne K (.ref (He.ga K "BadTime")) (.ref (He.ga K "TooMany")) = some false
  e_BadTime_RouteError : PySem.W.exmOne K (.ref (He.ga K "BadTime")) (.ref (He.ga K "RouteError")) = some true
  e_BadRoad_NoDay : PySem.W.exmOne K (.ref (He.ga K "BadRoad")) (.ref (He.ga K "NoDay")) = some false
  e_BadRoad_BadRoad : PySem.W.exmOne K (.ref (He.ga K "BadRoad")) (.ref (He.ga K "BadRoad")) = some true
  e_BadRoad_OffRoad : PySem.W.exmOne K (.ref (He.ga K "BadRoad")) (.ref (He.ga K "OffRoad")) = some false
  e_BadRoad_BadTime : PySem.W.exmOne K (.ref (He.ga K "BadRoad")) (.ref (He.ga K "BadTime")) = some false
  e_BadRoad_TooMany : PySem.W.exmOne K (.ref (He.ga K "BadRoad")) (.ref (He.ga K "TooMany")) = some false
  e_BadRoad_RouteError : PySem.W.exmOne K (.ref (He.ga K "BadRoad")) (.ref (He.ga K "RouteError")) = some true
  e_TooMany_NoDay : PySem.W.exmOne K (.ref (He.ga K "TooMany")) (.ref (He.ga K "NoDay")) = some false
  e_TooMany_BadRoad : PySem.W.exmOne K (.ref (He.ga K "TooMany")) (.ref (He.ga K "BadRoad")) = some false
  e_TooMany_OffRoad : PySem.W.exmOne K (.ref (He.ga K "TooMany")) (.ref (He.ga K "OffRoad")) = some false
  e_TooMany_BadTime : PySem.W.exmOne K (.ref (He.ga K "TooMany")) (.ref (He.ga K "BadTime")) = some false
  e_TooMany_TooMany : PySem.W.exmOne K (.ref (He.ga K "TooMany")) (.ref (He.ga K "TooMany")) = some true
  e_TooMany_RouteError : PySem.W.exmOne K (.ref (He.ga K "TooMany")) (.ref (He.ga K "RouteError")) = some true
  e_NoDay_NoDay : PySem.W.exmOne K (.ref (He.ga K "NoDay")) (.ref (He.ga K "NoDay")) = some true
  e_NoDay_BadRoad : PySem.W.exmOne K (.ref (He.ga K "NoDay")) (.ref (He.ga K "BadRoad")) = some false
  e_NoDay_OffRoad : PySem.W.exmOne K (.ref (He.ga K "NoDay")) (.ref (He.ga K "OffRoad")) = some false
  e_NoDay_BadTime : PySem.W.exmOne K (.ref (He.ga K "NoDay")) (.ref (He.ga K "BadTime")) = some false
  e_NoDay_TooMany : PySem.W.exmOne K (.ref (He.ga K "NoDay")) (.ref (He.ga K "TooMany")) = some false
  e_NoDay_RouteError : PySem.W.exmOne K (.ref (He.ga K "NoDay")) (.ref (He.ga K "RouteError")) = some true
  c_LINE : ∃ u, mg "LINE" = some u ∧ RelV (.str "line") u
  c_RING : ∃ u, mg "RING" = some u ∧ RelV (.str "ring") u
  c_LONGEST : ∃ u, mg "LONGEST" = some u ∧ RelV (.int 1000000000) u
  c_LATEST : ∃ u, mg "LATEST" = some u ∧ RelV (.int 1000000000000) u
  c_MOST_STOPS : ∃ u, mg "MOST_STOPS" = some u ∧ RelV (.int 7) u
  c_FIGURES : ∃ u, mg "FIGURES" = some u ∧ RelV (.str "0123456789") u
  c_MOST_FIGURES : ∃ u, mg "MOST_FIGURES" = some u ∧ RelV (.int 15) u
  m_HOME_WORDS : mg "HOME_WORDS" = some (.ref (He.ga K "HOME_WORDS"))
  m_STOP_WORDS : mg "STOP_WORDS" = some (.ref (He.ga K "STOP_WORDS"))
  m_int : mg "int" = none
  m_str : mg "str" = none
  m_range : mg "range" = none
  m_len : mg "len" = none
  m_list : mg "list" = none
  m_tuple : mg "tuple" = none
  m_isinstance : mg "isinstance" = none
  m_max : mg "max" = none
  m_ValueError : mg "ValueError" = none
  ec_OffRoad : ExcC K (He.ga K "OffRoad")
  ec_BadTime : ExcC K (He.ga K "BadTime")
  ec_BadRoad : ExcC K (He.ga K "BadRoad")
  ec_TooMany : ExcC K (He.ga K "TooMany")
  ec_NoDay : ExcC K (He.ga K "NoDay")
  t_HOME_WORDS : TupC K (He.ga K "HOME_WORDS") [("home" : Str), ("at" : Str)]
  t_STOP_WORDS : TupC K (He.ga K "STOP_WORDS") [("stop" : Str), ("from" : Str), ("to" : Str), ("for" : Str)]
  is_OffRoad_Day : PySem.W.kitOne K (.ref (He.ga K "OffRoad")) (.ref (He.ga K "Day")) = some false
  is_OffRoad_BadRoad : PySem.W.kitOne K (.ref (He.ga K "OffRoad")) (.ref (He.ga K "BadRoad")) = some false
  is_OffRoad_OffRoad : PySem.W.kitOne K (.ref (He.ga K "OffRoad")) (.ref (He.ga K "OffRoad")) = some true
  is_OffRoad_BadTime : PySem.W.kitOne K (.ref (He.ga K "OffRoad")) (.ref (He.ga K "BadTime")) = some false
  is_OffRoad_ValueError : PySem.W.kitOne K (.ref (He.ga K "OffRoad")) (.type "ValueError") = some true
  is_OffRoad_TooMany : PySem.W.kitOne K (.ref (He.ga K "OffRoad")) (.ref (He.ga K "TooMany")) = some false
  is_OffRoad_NoDay : PySem.W.kitOne K (.ref (He.ga K "OffRoad")) (.ref (He.ga K "NoDay")) = some false
  is_BadTime_Day : PySem.W.kitOne K (.ref (He.ga K "BadTime")) (.ref (He.ga K "Day")) = some false
  is_BadTime_BadRoad : PySem.W.kitOne K (.ref (He.ga K "BadTime")) (.ref (He.ga K "BadRoad")) = some false
  is_BadTime_OffRoad : PySem.W.kitOne K (.ref (He.ga K "BadTime")) (.ref (He.ga K "OffRoad")) = some false
  is_BadTime_BadTime : PySem.W.kitOne K (.ref (He.ga K "BadTime")) (.ref (He.ga K "BadTime")) = some true
  is_BadTime_ValueError : PySem.W.kitOne K (.ref (He.ga K "BadTime")) (.type "ValueError") = some true
  is_BadTime_TooMany : PySem.W.kitOne K (.ref (He.ga K "BadTime")) (.ref (He.ga K "TooMany")) = some false
  is_BadTime_NoDay : PySem.W.kitOne K (.ref (He.ga K "BadTime")) (.ref (He.ga K "NoDay")) = some false
  is_BadRoad_Day : PySem.W.kitOne K (.ref (He.ga K "BadRoad")) (.ref (He.ga K "Day")) = some false
  is_BadRoad_BadRoad : PySem.W.kitOne K (.ref (He.ga K "BadRoad")) (.ref (He.ga K "BadRoad")) = some true
  is_BadRoad_OffRoad : PySem.W.kitOne K (.ref (He.ga K "BadRoad")) (.ref (He.ga K "OffRoad")) = some false
  is_BadRoad_BadTime : PySem.W.kitOne K (.ref (He.ga K "BadRoad")) (.ref (He.ga K "BadTime")) = some false
  is_BadRoad_ValueError : PySem.W.kitOne K (.ref (He.ga K "BadRoad")) (.type "ValueError") = some true
  is_BadRoad_TooMany : PySem.W.kitOne K (.ref (He.ga K "BadRoad")) (.ref (He.ga K "TooMany")) = some false
  is_BadRoad_NoDay : PySem.W.kitOne K (.ref (He.ga K "BadRoad")) (.ref (He.ga K "NoDay")) = some false
  is_TooMany_Day : PySem.W.kitOne K (.ref (He.ga K "TooMany")) (.ref (He.ga K "Day")) = some false
  is_TooMany_BadRoad : PySem.W.kitOne K (.ref (He.ga K "TooMany")) (.ref (He.ga K "BadRoad")) = some false
  is_TooMany_OffRoad : PySem.W.kitOne K (.ref (He.ga K "TooMany")) (.ref (He.ga K "OffRoad")) = some false
  is_TooMany_BadTime : PySem.W.kitOne K (.ref (He.ga K "TooMany")) (.ref (He.ga K "BadTime")) = some false
  is_TooMany_ValueError : PySem.W.kitOne K (.ref (He.ga K "TooMany")) (.type "ValueError") = some true
  is_TooMany_TooMany : PySem.W.kitOne K (.ref (He.ga K "TooMany")) (.ref (He.ga K "TooMany")) = some true
  is_TooMany_NoDay : PySem.W.kitOne K (.ref (He.ga K "TooMany")) (.ref (He.ga K "NoDay")) = some false
  is_NoDay_Day : PySem.W.kitOne K (.ref (He.ga K "NoDay")) (.ref (He.ga K "Day")) = some false
  is_NoDay_BadRoad : PySem.W.kitOne K (.ref (He.ga K "NoDay")) (.ref (He.ga K "BadRoad")) = some false
  is_NoDay_OffRoad : PySem.W.kitOne K (.ref (He.ga K "NoDay")) (.ref (He.ga K "OffRoad")) = some false
  is_NoDay_BadTime : PySem.W.kitOne K (.ref (He.ga K "NoDay")) (.ref (He.ga K "BadTime")) = some false
  is_NoDay_ValueError : PySem.W.kitOne K (.ref (He.ga K "NoDay")) (.type "ValueError") = some true
  is_NoDay_TooMany : PySem.W.kitOne K (.ref (He.ga K "NoDay")) (.ref (He.ga K "TooMany")) = some false
  is_NoDay_NoDay : PySem.W.kitOne K (.ref (He.ga K "NoDay")) (.ref (He.ga K "NoDay")) = some true
  iy_Day : InsC K (He.ga K "Day")
  iz_Day : PySem.W.kitOne K (.ref (He.ga K "Day")) (.ref (He.ga K "Day")) = some true
  iz_str_Day : PySem.W.kitOne K (.type "str") (.ref (He.ga K "Day")) = some false
  iz_NoneType_Day : PySem.W.kitOne K (.type "NoneType") (.ref (He.ga K "Day")) = some false
  iz_bool_Day : PySem.W.kitOne K (.type "bool") (.ref (He.ga K "Day")) = some false
  iz_int_Day : PySem.W.kitOne K (.type "int") (.ref (He.ga K "Day")) = some false
section
variable {P : Program} {w : World} {K : PySem.W.Frag} {mg : Str → Option Value} {base : Heap} {D : Str → FuncData}
/-! #### is_road -/
def sp_is_road (K : PySem.W.Frag) : Sp := fun vs H Q _ => ∃ (r : Addr) (w : Str) (len : Int), vs = [.ref r] ∧ SqT K H r [.str w, .int len] ∧ ∀ H', Ex H H' → Q (.bl (decide (isRoad w len))) H'
set_option maxHeartbeats 4000000 in
theorem ok_is_road (T : Txt K mg D) : FnOk P w K mg base CX0 1 (He.ga K "is_road") (D "is_road") ["road"] (sp_is_road K) := by
  refine T.F_is_road.ok sc_is_road (fun vs H Q E h => ?_) (fun cdv A outer s H vs Q E hr h => ?_)
  · obtain ⟨_, _, _, rfl, _⟩ := h
    rfl
  obtain ⟨r, w', len, rfl, hS, q⟩ := h
  refine ⟨_, PSs.nox (pss_cons (ps_asg (pv 0) (pg_tup rfl (pgs_cons (pg_name (i := 1) sc_is_road.nd rfl (Or.inl rfl)) (pgs_cons (pg_name (i := 2) sc_is_road.nd rfl (Or.inl rfl)) pgs_nil))))
    (pss_one (ps_ret (pe_and (pe_cmpR op_in_seq (pv 1) (pe_tup (pa_cons (pe_globE rfl T.c_LINE) (pa_cons (pe_globE rfl T.c_RING) pa_nil))) rfl) (pe_one (pe_chain op_le op_le pe_int (pv 2) (pe_globE rfl T.c_LONGEST))))))), ?_⟩
  refine ⟨_, rfl, r, _, rfl, hS, rfl, ?_⟩
  walk_at "go"
  intro p hp
  refine ⟨p, _, rfl, Or.inr (SqT.of upd_same), rfl, rfl, _, rfl, ?_⟩
  have e := in_roads w'
  refine iteB (fun c => ?_) (fun c => ?_)
  · have c1 : w' = "line" ∨ w' = "ring" := of_decide_eq_true (e.symm.trans c)
    walk_at "go"
    refine iteB (fun c => ?_) (fun c => ?_)
    · have c2 := of_decide_eq_true c
      walk_at "go"
      have q' := q (upd H p (.tup [.str "line", .str "ring"])) (Evl.Ex.new hp)
      rw [dec_eq (r := len ≤ 1000000000) (by unfold isRoad; exact ⟨fun z => z.2.2, fun z => ⟨c1, c2, z⟩⟩)] at q'
      exact q'
    · have c2 := of_decide_eq_false c
      have q' := q (upd H p (.tup [.str "line", .str "ring"])) (Evl.Ex.new hp)
      rw [decide_eq_false (fun z => c2 z.2.1)] at q'
      exact q'
  · have c1 : ¬ (w' = "line" ∨ w' = "ring") := of_decide_eq_false (e.symm.trans c)
    have q' := q (upd H p (.tup [.str "line", .str "ring"])) (Evl.Ex.new hp)
    rw [decide_eq_false (fun z => c1 z.1)] at q'
    exact q'
/-! #### has_place -/
def sp_has_place (K : PySem.W.Frag) : Sp := fun vs H Q _ => ∃ (r : Addr) (ring : Bool) (len p : Int), vs = [.ref r, .int p] ∧ SqT K H r (roadV ring len) ∧ Q (.bl (decide (0 ≤ p ∧ p < placesOf ring len))) H
set_option maxHeartbeats 4000000 in
theorem ok_has_place (T : Txt K mg D) : FnOk P w K mg base CX0 1 (He.ga K "has_place") (D "has_place") ["road", "place"] (sp_has_place K) := by
  refine T.F_has_place.ok sc_has_place (fun vs H Q E h => ?_) (fun cdv A outer s H vs Q E hr h => ?_)
  · obtain ⟨_, _, _, _, rfl, _⟩ := h
    rfl
  obtain ⟨r, ring, len, p, rfl, hS, q⟩ := h
  refine ⟨_, PSs.nox (pss_cons (ps_asg (pv 0) (pg_tup rfl (pgs_cons (pg_name (i := 2) sc_has_place.nd rfl (Or.inl rfl)) (pgs_cons (pg_name (i := 3) sc_has_place.nd rfl (Or.inl rfl)) pgs_nil))))
    (pss_cons (ps_if (pt_cmpR op_eq (pv 2) (pe_globE rfl T.c_LINE) (nomark _)) (pss_one (ps_ret (pe_chain op_le op_le pe_int (pv 1) (pv 3)))) pss_nil)
    (pss_one (ps_ret (pe_chain op_le op_lt pe_int (pv 1) (pv 3)))))), ?_⟩
  refine ⟨_, rfl, r, _, rfl, hS, rfl, ?_⟩
  walk_at "go"
  refine iteB (fun c => ?_) (fun c => ?_)
  · have hr := (word_line ring).mp (of_decide_eq_true c)
    subst hr
    have hp : placesOf false len = len + 1 := rfl
    walk_at "go"
    refine iteB (fun c2 => ?_) (fun c2 => ?_)
    · have c3 := of_decide_eq_true c2
      walk_at "go"
      rw [dec_eq (r := p ≤ len) (by rw [hp]; omega)] at q
      exact q
    · have c3 := of_decide_eq_false c2
      rw [decide_eq_false (by omega)] at q
      exact q
  · have hr : ring = true := by
      cases ring with
      | true => rfl
      | false => exact absurd ((word_line false).mpr rfl) (of_decide_eq_false c)
    subst hr
    have hp : placesOf true len = len := rfl
    walk_at "go"
    refine iteB (fun c2 => ?_) (fun c2 => ?_)
    · have c3 := of_decide_eq_true c2
      walk_at "go"
      rw [dec_eq (r := p < len) (by rw [hp]; omega)] at q
      exact q
    · have c3 := of_decide_eq_false c2
      rw [decide_eq_false (by omega)] at q
      exact q
/-! #### is_time -/
def sp_is_time (K : PySem.W.Frag) : Sp := fun vs H Q _ => ∃ (n : Int), vs = [.int n] ∧ Q (.bl (decide (isTime n))) H
set_option maxHeartbeats 4000000 in
theorem ok_is_time (T : Txt K mg D) : FnOk P w K mg base CX0 1 (He.ga K "is_time") (D "is_time") ["number"] (sp_is_time K) := by
  refine T.F_is_time.ok sc_is_time (fun vs H Q E h => ?_) (fun cdv A outer s H vs Q E hr h => ?_)
  · obtain ⟨_, rfl, _⟩ := h
    rfl
  obtain ⟨n, rfl, q⟩ := h
  refine ⟨_, PSs.nox (pss_one (ps_ret (pe_chain op_le op_le pe_int (pv 0) (pe_globE rfl T.c_LATEST)))), ?_⟩
  walk_at "go"
  refine iteB (fun c => ?_) (fun c => ?_)
  · have c1 := of_decide_eq_true c
    walk_at "go"
    rw [dec_eq (r := n ≤ 1000000000000) (by unfold isTime; omega)] at q
    exact q
  · have c1 := of_decide_eq_false c
    rw [decide_eq_false (by unfold isTime; omega)] at q
    exact q
/-! #### number_of -/
def sp_number_of (K : PySem.W.Frag) : Sp := fun vs H Q E => ∃ (l : List Nat), vs = [.str (S l)] ∧ l.length ≤ 8000000 ∧ (∀ n, numOf l = some n → Q (.int n) H) ∧ (numOf l = none → E (.ref (He.ga K "NoDay")) none H)
set_option maxHeartbeats 4000000 in
theorem ok_number_of (T : Txt K mg D) : FnOk P w K mg base (L2.CX P w) 1 (He.ga K "number_of") (D "number_of") ["word"] (sp_number_of K) := by
  refine T.F_number_of.ok sc_number_of (fun vs H Q E h => ?_) (fun cdv A outer s H vs Q E hr h => ?_)
  · obtain ⟨_, rfl, _⟩ := h
    rfl
  obtain ⟨l, rfl, hl, q1, q2⟩ := h
  refine ⟨_, (pss_cons (ps_if (pt_not (pt_chain op_le op_le pe_int (pe_callB call_len_str rfl T.m_len PySem.boot_len (pa_cons (pv 0) pa_nil)) (pe_globE rfl T.c_MOST_FIGURES))) (pss_one (ps_raise rfl (takes_of rfl rfl rfl rfl) (pmk_own PySem.F.excBase_ValueError T.x_NoDay T.m_NoDay T.kp_NoDay (raises_own T.sb_NoDay T.ty_NoDay) (by exact rfl)))) pss_nil)
    (pss_cons (ps_for (passes_of rfl) rfl (pi_str (pv 0)) (pg_name (i := 1) sc_number_of.nd rfl (Or.inl rfl))
      (pss_one (ps_if (pt_cmpR op_notIn_sign (pv 1) (pe_globE rfl T.c_FIGURES) rfl) (pss_one (ps_raise rfl (takes_of rfl rfl rfl rfl) (pmk_own PySem.F.excBase_ValueError T.x_NoDay T.m_NoDay T.kp_NoDay (raises_own T.sb_NoDay T.ty_NoDay) (by exact rfl)))) pss_nil)))
    (pss_cons (ps_if (PW.pt (pw_and (pt_cmpR op_eq (pe_ix ix_str (pv 0) pe_int (fun _ _ => rfl)) pe_str (nomark _)) (pw_and1 (pt_cmpR op_ne (pv 0) pe_str (nomark _))))) (pss_one (ps_raise rfl (takes_of rfl rfl rfl rfl) (pmk_own PySem.F.excBase_ValueError T.x_NoDay T.m_NoDay T.kp_NoDay (raises_own T.sb_NoDay T.ty_NoDay) (by exact rfl)))) pss_nil)
    (pss_one (ps_ret (pe_callTy call_int_str rfl T.m_int (by decide +kernel) (pa_cons (pv 0) pa_nil))))))), ?_⟩
  have sl := S_len l
  walk_at "go"
  refine ⟨szB (by rw [sl]; omega), ?_⟩
  rw [sl]
  walk_at "go"
  refine iteB (fun c => ?_) (fun c => ?_)
  case refine_2 =>
    walk_at "go"
    exact q2 (numOf_no fun z => odf c (by omega))
  have c1 := odt c
  walk_at "go"
  refine iteB (fun c => ?_) (fun c => ?_)
  · exact q2 (numOf_no fun z => nndec c (by omega))
  have c2 := ndec c
  walk_at "go"
  refine for_it (walk_str (z := S l)) (fun i σ H' => (∃ x1, σ = [some (.str (S l)), x1]) ∧ H' = H ∧ Digs (l.take i)) ⟨⟨_, rfl⟩, rfl, fun z hz => (by simp at hz)⟩ (fun _ _ _ _ _ => True.intro) ?_ ?_
  · rintro i y σ H1 H2 hi ⟨⟨x1, rfl⟩, rfl, dg⟩ ⟨rfl, c, hc, rfl⟩
    have ci : l[i]? = some c := by
      have z2 : ((S l).cps.toList)[i]? = some c := by rw [Array.getElem?_toList]; exact hc
      exact z2
    have cm : c ∈ l := List.mem_of_getElem? ci
    have tk : l.take (i + 1) = l.take i ++ [c] := by rw [List.take_succ, ci]; rfl
    have fg : c ∈ (Str.ofString "0123456789").cps.toList ↔ 48 ≤ c ∧ c ≤ 57 := by
      rw [figs_is]
      exact mem_figs
    walk_at "go"
    refine iteB (fun c3 => ?_) (fun c3 => ?_)
    · exact q2 (numOf_no fun z => nndec c3 (fg.mpr (z.2.1 c cm)))
    · have c4 := fg.mp (ndec c3)
      refine ⟨⟨_, rfl⟩, rfl, ?_⟩
      rw [tk]
      intro z hz
      rcases List.mem_append.mp hz with hz | hz
      · exact dg z hz
      · obtain rfl := List.mem_singleton.mp hz
        exact c4
  rintro σ H' ⟨⟨x1, rfl⟩, rfl, dg⟩
  have dl : Digs l := by
    rw [show (S l).cps.size = l.length from sl, List.take_length] at dg
    exact dg
  have len15 : 1 ≤ l.length ∧ l.length ≤ 15 := by omega
  have good : lead0 l = false → Q (.int (valOf l)) H' ∧ PySem.intText? (S l) = some (valOf l) := fun z => ⟨q1 _ (numOf_is len15 dl z), (numOf_some (numOf_is len15 dl z)).2.2.2.2.2.2⟩
  obtain ⟨a, r, ec⟩ : ∃ a r, l = a :: r := by
    cases e : l with
    | nil => rw [e] at c1; simp at c1
    | cons a r => exact ⟨a, r, rfl⟩
  have at0 : atI (S l).cps.toList 0 = some a := by
    show atI l ((0 : Nat) : Int) = some a
    rw [ec]
    exact atI_nat rfl
  walk_at "go"
  refine ⟨_, _, _, rfl, rfl, szB (by rw [sl]; omega), at0, ?_⟩
  walk_at "go"
  rw [zero_S]
  refine iteB (fun c3 => ?_) (fun c3 => ?_)
  · have e48 : a = 48 := (List.cons.inj (S_inj (V.str.inj (odt c3) : S [a] = S [48]))).1
    walk_at "go"
    refine iteB (fun c4 => ?_) (fun c4 => ?_)
    · refine q2 (numOf_no fun z => nndec c4 ?_)
      rw [lead0_48 (ec.trans (by rw [e48])) z.2.2]
    · have e1 : l = [48] := S_inj (V.str.inj (ndec c4))
      obtain ⟨g1, g2⟩ := good (by rw [e1]; rfl)
      walk_at "go"
      exact g1
  · obtain ⟨g1, g2⟩ := good (lead0_ne (ec.trans rfl) fun z => odf c3 (by rw [z]))
    walk_at "go"
    exact g1
/-! #### _law_cell_at -/
def sp_law_cell_at (K : PySem.W.Frag) : Sp := fun vs H Q _ => ∃ (a : Addr) (ns : List Int) (k : Int), vs = [.ref a, .int k] ∧ SqL K H a (ns.map V.int) ∧ ns.length ≤ 63 ∧ ∀ v, Q (.int v) H
set_option maxHeartbeats 4000000 in
theorem ok_law_cell_at (T : Txt K mg D) : FnOk P w K mg base CX0 1 (He.ga K "_law_cell_at") (D "_law_cell_at") ["_law_script", "_law_k"] (sp_law_cell_at K) := by
  refine T.F_law_cell_at.ok sc_law_cell_at (fun vs H Q E h => ?_) (fun cdv A outer s H vs Q E hr h => ?_)
  · obtain ⟨_, _, _, rfl, _⟩ := h
    rfl
  obtain ⟨a, ns, k, rfl, hS, hn, q⟩ := h
  refine ⟨_, PSs.nox (pss_cons (ps_if (pt_cmpR op_eq (pe_callB call_len_seq rfl T.m_len PySem.boot_len (pa_cons (pv 0) pa_nil)) pe_int (nomark _)) (pss_one (ps_ret (pv 1))) pss_nil)
    (pss_one (ps_ret (pe_op op_add (pe_ix ix_list (pv 0) (pe_op op_mod (pv 1) (pe_callB call_len_seq rfl T.m_len PySem.boot_len (pa_cons (pv 0) pa_nil))) (fun _ _ => rfl)) (pe_op op_mul pe_int (pe_op op_fdiv (pv 1) (pe_callB call_len_seq rfl T.m_len PySem.boot_len (pa_cons (pv 0) pa_nil)))))))), ?_⟩
  have hl : (ns.map V.int).length = ns.length := List.length_map _
  walk_at "go"
  refine iteB (fun c => ?_) (fun c => ?_)
  · walk_at "go"
    exact q _
  · have c' : ¬ (((ns.map V.int).length : Nat) : Int) = 0 := fun z => of_decide_eq_false c (congrArg V.int z)
    have hp : (0 : Int) < (((ns.map V.int).length : Nat) : Int) := by omega
    have hj : k % (((ns.map V.int).length : Nat) : Int) < (((ns.map V.int).length : Nat) : Int) := Int.emod_lt_of_pos _ hp
    have hj0 : 0 ≤ k % (((ns.map V.int).length : Nat) : Int) := Int.emod_nonneg _ c'
    obtain ⟨v, hv, hv2⟩ := atI_lt hj0 hj
    obtain ⟨z, rfl⟩ : ∃ z, v = V.int z := by
      rw [List.getElem?_map] at hv2
      cases e : ns[(k % (((ns.map V.int).length : Nat) : Int)).toNat]? with
      | none => rw [e] at hv2; cases hv2
      | some z => rw [e] at hv2; exact ⟨z, (Option.some.inj hv2).symm⟩
    walk_at "go"
    exact q _
/-! #### _law_spoilt -/
theorem cutS_to (l : List Nat) (k : Nat) (h : k ≤ l.length) : cutS (S l) none (some (k : Int)) = S (l.take k) := by
  unfold cutS
  rw [S_len]
  have e : HT.sIx l.length l.length (some (k : Int)) = k := by
    show (if (k : Int) < 0 then ((k : Int) + (l.length : Int)).toNat else min (k : Int).toNat l.length) = _
    rw [if_neg (by omega)]
    omega
  rw [e, HT.sIx_none]
  show S ((l.drop 0).take (k - 0)) = _
  rw [List.drop_zero, Nat.sub_zero]
theorem cutS_up (l : List Nat) (k : Nat) : cutS (S l) none (some (k : Int)) = S (l.take k) := by
  by_cases h : k ≤ l.length
  · exact cutS_to l k h
  · unfold cutS
    rw [S_len]
    have e : HT.sIx l.length l.length (some (k : Int)) = l.length := by
      show (if (k : Int) < 0 then ((k : Int) + (l.length : Int)).toNat else min (k : Int).toNat l.length) = _
      rw [if_neg (by omega)]
      omega
    rw [e, HT.sIx_none]
    show S ((l.drop 0).take (l.length - 0)) = _
    rw [List.drop_zero, Nat.sub_zero, List.take_length, List.take_of_length_le (by omega)]
theorem cutS_from (l : List Nat) (k : Nat) : cutS (S l) (some (k : Int)) none = S (l.drop k) := by
  unfold cutS
  rw [S_len]
  have e : HT.sIx l.length 0 (some (k : Int)) = min k l.length := by
    show (if (k : Int) < 0 then ((k : Int) + (l.length : Int)).toNat else min (k : Int).toNat l.length) = _
    rw [if_neg (by omega)]
    omega
  rw [e, HT.sIx_none]
  show S ((l.drop (min k l.length)).take (l.length - min k l.length)) = _
  rw [List.take_of_length_le (by rw [List.length_drop]; exact Nat.le_refl _)]
  by_cases c : k ≤ l.length
  · rw [Nat.min_eq_left c]
  · rw [Nat.min_eq_right (by omega), List.drop_length, List.drop_eq_nil_of_le (by omega)]
def sp_law_spoilt (K : PySem.W.Frag) : Sp := fun vs H Q _ => ∃ (l : List Nat) (c b : Int), vs = [.str (S l), .int c, .int b] ∧ Asc l ∧ l.length ≤ 3000000 ∧ ∀ l', Asc l' → l'.length ≤ l.length + 1 → Q (.str (S l')) H
set_option maxHeartbeats 4000000 in
theorem ok_law_spoilt (T : Txt K mg D) : FnOk P w K mg base CX0 1 (He.ga K "_law_spoilt") (D "_law_spoilt") ["_law_text", "_law_cell", "_law_by"] (sp_law_spoilt K) := by
  refine T.F_law_spoilt.ok sc_law_spoilt (fun vs H Q E h => ?_) (fun cdv A outer s H vs Q E hr h => ?_)
  · obtain ⟨_, _, _, rfl, _⟩ := h
    rfl
  obtain ⟨l, c, b, rfl, al, hl, q⟩ := h
  refine ⟨_, PSs.nox (pss_cons (ps_set (i := 3) sc_law_spoilt.nd rfl (Or.inl rfl) (pe_op op_mod (pe_op op_fdiv (pv 1) pe_int) (pe_op op_add (pe_callB call_len_str rfl T.m_len PySem.boot_len (pa_cons (pv 0) pa_nil)) pe_int)))
    (pss_cons (ps_set (i := 4) sc_law_spoilt.nd rfl (Or.inl rfl) pe_str)
    (pss_cons (ps_set (i := 4) sc_law_spoilt.nd rfl (Or.inl rfl) (pe_op op_add_str (pv 4) pe_str))
    (pss_cons (ps_set (i := 5) sc_law_spoilt.nd rfl (Or.inl rfl) (pe_ix ix_str (pv 4) (pe_op op_mod (pv 2) (pe_callB call_len_str rfl T.m_len PySem.boot_len (pa_cons (pv 4) pa_nil))) (fun _ _ => rfl)))
    (pss_cons (ps_if (pt_cmpR op_eq (pe_op op_mod (pv 1) pe_int) pe_int (nomark _)) (pss_one (ps_ret (pe_op op_add_str (pe_op op_add_str (pe_slice sl_str (pv 0) po_none (po_some (pv 3))) (pv 5)) (pe_slice sl_str (pv 0) (po_some (pv 3)) po_none)))) pss_nil)
    (pss_cons (ps_if (pt_cmpR op_eq (pe_op op_mod (pv 1) pe_int) pe_int (nomark _)) (pss_one (ps_ret (pe_op op_add_str (pe_slice sl_str (pv 0) po_none (po_some (pv 3))) (pe_slice sl_str (pv 0) (po_some (pe_op op_add (pv 3) pe_int)) po_none)))) pss_nil)
    (pss_one (ps_ret (pe_op op_add_str (pe_op op_add_str (pe_slice sl_str (pv 0) po_none (po_some (pv 3))) (pv 5)) (pe_slice sl_str (pv 0) (po_some (pe_op op_add (pv 3) pe_int)) po_none)))))))))), ?_⟩
  have sl := S_len l
  obtain ⟨k, hk, kl⟩ : ∃ k : Nat, c / 3 % (((S l).length : Int) + 1) = (k : Int) ∧ k ≤ l.length := by
    have h0 := Int.emod_nonneg (c / 3) (show (((S l).length : Nat) : Int) + 1 ≠ 0 by omega)
    have h1 := Int.emod_lt_of_pos (c / 3) (show (0 : Int) < (((S l).length : Nat) : Int) + 1 by omega)
    exact ⟨(c / 3 % (((S l).length : Int) + 1)).toNat, by omega, by omega⟩
  walk_at "go"
  refine ⟨szB (by rw [sl]; omega), ?_⟩
  walk_at "go"
  have g1 : AscS (Str.ofString "0123456789  \n\n0123456789  \n\n !\"#$&'()*+,-./:;<=>?@ABCDEFGHIJKLMNOPQRSTUVWXYZ[\\]^_`") 100 := ascLit (by decide +kernel)
  have g2 : AscS (Str.ofString "abcdefghijklmnopqrstuvwxyz{|}~\t") 100 := ascLit (by decide +kernel)
  have g3 := g1.app g2
  have pos : 0 < (Str.ofString "0123456789  \n\n0123456789  \n\n !\"#$&'()*+,-./:;<=>?@ABCDEFGHIJKLMNOPQRSTUVWXYZ[\\]^_`" ++ Str.ofString "abcdefghijklmnopqrstuvwxyz{|}~\t").length := by
    rw [Str.length_append, show (Str.ofString "abcdefghijklmnopqrstuvwxyz{|}~\t").length = 31 by decide +kernel]
    omega
  generalize Str.ofString "0123456789  \n\n0123456789  \n\n !\"#$&'()*+,-./:;<=>?@ABCDEFGHIJKLMNOPQRSTUVWXYZ[\\]^_`" ++ Str.ofString "abcdefghijklmnopqrstuvwxyz{|}~\t" = sg at g3 pos ⊢
  clear g1 g2
  have bm0 := Int.emod_nonneg b (show ((sg.length : Nat) : Int) ≠ 0 by omega)
  have bm1 := Int.emod_lt_of_pos b (show (0 : Int) < ((sg.length : Nat) : Int) by omega)
  refine And.intro (show (0 : Int) < ((sg.length : Nat) : Int) by omega) ?_
  obtain ⟨ch, hch, hch2⟩ := atI_lt (xs := sg.cps.toList) bm0 (by rw [← len_tl]; exact bm1)
  have ach : ch < 128 := g3.1 ch (List.mem_of_getElem? hch2)
  refine ⟨_, _, _, rfl, rfl, szB (Nat.le_trans g3.2 (by decide)), hch, ?_⟩
  have chS : (⟨#[ch]⟩ : Str) = S [ch] := rfl
  rw [chS]
  have ac : Asc [ch] := fun z hz => by obtain rfl := List.mem_singleton.mp hz; exact ach
  have at_ : Asc (l.take k) := al.sub fun z hz => List.mem_of_mem_take hz
  have ad : ∀ j, Asc (l.drop j) := fun j => al.sub fun z hz => List.mem_of_mem_drop hz
  have lk : (l.take k).length = k := by rw [List.length_take]; omega
  have fin : ∀ l', Asc l' → l'.length ≤ l.length + 1 → ∀ y, y = S l' → Q (.str y) H := fun l' h1 h2 y h3 => by rw [h3]; exact q l' h1 h2
  walk_at "go"
  refine iteB (fun c1 => ?_) (fun c1 => ?_)
  · walk_at "go"
    refine ⟨szB (by rw [sl]; omega), ?_⟩
    rw [hk, cutS_to l k kl]
    walk_at "go"
    refine ⟨szB (by rw [S_len, S_len, lk]; show k + 1 ≤ _; omega), ?_⟩
    rw [S_app]
    walk_at "go"
    refine ⟨szB (by rw [sl]; omega), ?_⟩
    rw [hk, cutS_from]
    walk_at "go"
    refine ⟨szB (by rw [S_len, S_len, List.length_append, lk, List.length_drop]; show k + 1 + _ ≤ _; omega), ?_⟩
    exact fin _ ((at_.app ac).app (ad k)) (by rw [List.length_append, List.length_append, lk, List.length_drop]; show k + 1 + _ ≤ _; omega) _ (S_app _ _)
  walk_at "go"
  refine iteB (fun c2 => ?_) (fun c2 => ?_)
  · walk_at "go"
    refine ⟨szB (by rw [sl]; omega), ?_⟩
    rw [hk, cutS_to l k kl]
    walk_at "go"
    refine ⟨szB (by rw [sl]; omega), ?_⟩
    rw [hk, show ((k : Int) + 1) = ((k + 1 : Nat) : Int) by omega, cutS_from]
    walk_at "go"
    refine ⟨szB (by rw [S_len, S_len, lk, List.length_drop]; omega), ?_⟩
    exact fin _ (at_.app (ad (k + 1))) (by rw [List.length_append, lk, List.length_drop]; omega) _ (S_app _ _)
  walk_at "go"
  refine ⟨szB (by rw [sl]; omega), ?_⟩
  rw [hk, cutS_to l k kl]
  walk_at "go"
  refine ⟨szB (by rw [S_len, S_len, lk]; show k + 1 ≤ _; omega), ?_⟩
  rw [S_app]
  walk_at "go"
  refine ⟨szB (by rw [sl]; omega), ?_⟩
  rw [hk, show ((k : Int) + 1) = ((k + 1 : Nat) : Int) by omega, cutS_from]
  walk_at "go"
  refine ⟨szB (by rw [S_len, S_len, List.length_append, lk, List.length_drop]; show k + 1 + _ ≤ _; omega), ?_⟩
  exact fin _ ((at_.app ac).app (ad (k + 1))) (by rw [List.length_append, List.length_append, lk, List.length_drop]; show k + 1 + _ ≤ _; omega) _ (S_app _ _)
/-! #### _law_number -/
def sp_law_number (K : PySem.W.Frag) : Sp := fun vs H Q _ => ∃ (c a m : Int), vs = [.int c, .int a, .int m] ∧ 0 ≤ a ∧ a ≤ 1000 ∧ 0 < m ∧ m ≤ 1000 ∧ ∀ l H', Asc l → l.length ≤ 5000 → Ex H H' → Q (.str (S l)) H'
set_option maxHeartbeats 4000000 in
theorem ok_law_number (T : Txt K mg D) : FnOk P w K mg base CX0 1 (He.ga K "_law_number") (D "_law_number") ["_law_cell", "_law_first", "_law_many"] (sp_law_number K) := by
  refine T.F_law_number.ok sc_law_number (fun vs H Q E h => ?_) (fun cdv A outer s H vs Q E hr h => ?_)
  · obtain ⟨_, _, _, rfl, _⟩ := h
    rfl
  obtain ⟨c, a, m, rfl, a0, a1, m0, m1, q⟩ := h
  refine ⟨_, PSs.nox (pss_cons (ps_set (i := 3) sc_law_number.nd rfl (Or.inl rfl) (pe_lst (pa_cons pe_str (pa_cons (pe_op op_repS pe_str pe_int) (pa_cons pe_str (pa_cons pe_str (pa_cons pe_str (pa_cons pe_str (pa_cons pe_str (pa_cons pe_str pa_nil))))))))))
    (pss_cons (ps_if (pt_cmpR op_eq (pe_op op_mod (pv 0) pe_int) pe_int (nomark _)) (pss_one (ps_ret (pe_ix ix_list (pv 3) (pe_op op_mod (pe_op op_fdiv (pv 0) pe_int) pe_int) (fun _ _ => rfl)))) pss_nil)
    (pss_one (ps_ret (pe_callTy call_str_int rfl T.m_str (by decide +kernel) (pa_cons (pe_op op_add (pv 1) (pe_op op_mod (pe_op op_fdiv (pv 0) pe_int) (pv 2))) pa_nil)))))), ?_⟩
  dsimp only [L2.cxOf, L2.Cx.nox]
  obtain ⟨l9, e9, a9, n9⟩ := nines
  walk_at "go"
  rw [e9]
  intro p hp
  have e1 := Evl.Ex.new (o := .lst ([(Str.ofString "1234567890123456"), S l9, (Str.ofString "999999999999999"), (Str.ofString "007"), (Str.ofString "00"), (Str.ofString "0"), (Str.ofString "1000000000001"), (Str.ofString "10000000000000")].map V.str)) hp
  have h1 : (upd H p (.lst ([(Str.ofString "1234567890123456"), S l9, (Str.ofString "999999999999999"), (Str.ofString "007"), (Str.ofString "00"), (Str.ofString "0"), (Str.ofString "1000000000001"), (Str.ofString "10000000000000")].map V.str))) p = some (.lst ([(Str.ofString "1234567890123456"), S l9, (Str.ofString "999999999999999"), (Str.ofString "007"), (Str.ofString "00"), (Str.ofString "0"), (Str.ofString "1000000000001"), (Str.ofString "10000000000000")].map V.str)) := upd_same
  have good := odd_ok a9 n9
  generalize ho : [(Str.ofString "1234567890123456"), S l9, (Str.ofString "999999999999999"), (Str.ofString "007"), (Str.ofString "00"), (Str.ofString "0"), (Str.ofString "1000000000001"), (Str.ofString "10000000000000")] = od at e1 h1 good
  have lod : od.length = 8 := by rw [← ho]; rfl
  have same : [V.str (Str.ofString "1234567890123456"), V.str (S l9), V.str (Str.ofString "999999999999999"), V.str (Str.ofString "007"), V.str (Str.ofString "00"), V.str (Str.ofString "0"), V.str (Str.ofString "1000000000001"), V.str (Str.ofString "10000000000000")] = od.map V.str := by rw [← ho]; rfl
  rw [same]
  generalize upd H p (.lst (od.map V.str)) = H1 at e1 h1
  walk_at "go"
  refine iteB (fun c1 => ?_) (fun c1 => ?_)
  · have hls : SqL K H1 p (od.map V.str) := SqL.of h1
    obtain ⟨x, hx, ax⟩ := str_at (i := c / 11 % 8) good (Int.emod_nonneg _ (by decide)) (by rw [lod]; exact Int.emod_lt_of_pos _ (by decide))
    walk_at "go"
    rw [S_of x]
    exact q _ _ ax.1 ax.2 e1
  · have b0 := Int.emod_nonneg (c / 11) (show m ≠ 0 by omega)
    have b1 := Int.emod_lt_of_pos (c / 11) m0
    walk_at "go"
    refine ⟨log_small (by omega) (by omega), ?_⟩
    rw [toS (by omega)]
    exact q _ _ asc_num (Nat.le_trans (num_len (by omega) (by omega)) (by decide)) e1
/-! #### _law_read_number -/
def numV (l : List Nat) : V := match numOf l with
  | some n => .int n
  | none => .non
theorem numV_no {l : List Nat} (h : numOf l = none) : numV l = .non := by unfold numV; rw [h]
theorem numV_is {l : List Nat} {n : Int} (h : numOf l = some n) : numV l = .int n := by unfold numV; rw [h]
theorem find_fig {c : Nat} (h : 48 ≤ c ∧ c ≤ 57) : Txt.find (Str.ofString "0123456789") ⟨#[c]⟩ = (c : Int) - 48 := by
  have all : ∀ k : Nat, k < 10 → Txt.find (Str.ofString "0123456789") ⟨#[48 + k]⟩ = (k : Int) := by decide +kernel
  have z := all (c - 48) (by omega)
  rw [show 48 + (c - 48) = c by omega] at z
  rw [z]
  omega
def sp_law_read_number (K : PySem.W.Frag) : Sp := fun vs H Q _ => ∃ (l : List Nat), vs = [.str (S l)] ∧ l.length ≤ 8000000 ∧ Q (numV l) H
set_option maxHeartbeats 4000000 in
theorem ok_law_read_number (T : Txt K mg D) : FnOk P w K mg base CX0 1 (He.ga K "_law_read_number") (D "_law_read_number") ["_law_word"] (sp_law_read_number K) := by
  refine T.F_law_read_number.ok sc_law_read_number (fun vs H Q E h => ?_) (fun cdv A outer s H vs Q E hr h => ?_)
  · obtain ⟨_, rfl, _⟩ := h
    rfl
  obtain ⟨l, rfl, hl, q⟩ := h
  refine ⟨_, PSs.nox (Evl.pss_cut (ps_if (PW.pt (pw_or (pt_cmpR op_eq (pv 0) pe_str (nomark _)) (pw_or (pt_cmpR op_gt (pe_callB call_len_str rfl T.m_len PySem.boot_len (pa_cons (pv 0) pa_nil)) pe_int (nomark _)) (pw_or1 (PW.pt (pw_and (pt_cmpR op_eq (pe_ix ix_str (pv 0) pe_int (fun _ _ => rfl)) pe_str (nomark _)) (pw_and1 (pt_cmpR op_ne (pv 0) pe_str (nomark _))))))))) (pss_one (ps_ret pe_non)) pss_nil)
    (pss_cons (ps_set (i := 1) sc_law_read_number.nd rfl (Or.inl rfl) pe_int)
    (pss_cons (ps_for PassesOwn.never rfl (pi_str (pv 0)) (pg_name (i := 2) sc_law_read_number.nd rfl (Or.inl rfl))
      (Evl.pss_cut (ps_if (pt_cmpR op_notIn_sign (pv 2) pe_str rfl) (pss_one (ps_ret pe_non)) pss_nil)
      (pss_one (ps_set (i := 1) sc_law_read_number.nd rfl (Or.inl rfl) (pe_op op_add (pe_op op_mul pe_int (pv 1)) (pe_m1 PySem.F.slot_str_find PySem.F.type_str_find mt_find pe_str (pv 2)))))))
    (pss_one (ps_ret (pv 1)))))), ?_⟩
  have sl := S_len l
  have no : numOf l = none → Q .non H := fun z => by rw [numV_no z] at q; exact q
  refine ⟨fun σ' H' => σ' = [some (.str (S l)), none, none] ∧ H' = H ∧ lead0 l = false ∧ 1 ≤ l.length ∧ l.length ≤ 15, ?_, ?_⟩
  · walk_at "go"
    refine iteB (fun c => ?_) (fun c => ?_)
    · have e : l = [] := S_inj (V.str.inj (odt c))
      walk_at "go"
      exact no (numOf_no fun z => by rw [e] at z; exact absurd z.1.1 (by decide))
    have ne : l ≠ [] := fun z => odf c (by rw [z]; rfl)
    walk_at "go"
    refine ⟨szB (by rw [sl]; omega), ?_⟩
    walk_at "go"
    refine iteB (fun c => ?_) (fun c => ?_)
    · have c1 := odt c
      rw [sl] at c1
      walk_at "go"
      exact no (numOf_no fun z => by have := z.1.2; omega)
    have c1 := odf c
    rw [sl] at c1
    obtain ⟨a, r, ec⟩ : ∃ a r, l = a :: r := by
      cases e : l with
      | nil => exact absurd e ne
      | cons a r => exact ⟨a, r, rfl⟩
    have len15 : 1 ≤ l.length ∧ l.length ≤ 15 := ⟨by rw [ec]; exact Nat.succ_le_succ (Nat.zero_le _), by omega⟩
    have at0 : atI (S l).cps.toList 0 = some a := by
      show atI l ((0 : Nat) : Int) = some a
      rw [ec]
      exact atI_nat rfl
    walk_at "go"
    refine ⟨_, _, _, rfl, rfl, szB (by rw [sl]; omega), at0, ?_⟩
    walk_at "go"
    rw [zero_S]
    refine iteB (fun c3 => ?_) (fun c3 => ?_)
    · have e48 : a = 48 := (List.cons.inj (S_inj (V.str.inj (odt c3) : S [a] = S [48]))).1
      walk_at "go"
      refine iteB (fun c4 => ?_) (fun c4 => ?_)
      · walk_at "go"
        exact no (numOf_no fun z => nndec c4 (by rw [lead0_48 (ec.trans (by rw [e48])) z.2.2]))
      · have e1 : l = [48] := S_inj (V.str.inj (ndec c4))
        exact ⟨rfl, rfl, by rw [e1]; rfl, len15⟩
    · exact ⟨rfl, rfl, lead0_ne (ec.trans rfl) fun z => odf c3 (by rw [z]), len15⟩
  rintro σ' H' ⟨rfl, rfl, z0, len15⟩
  walk_at "go"
  refine for_it (walk_str (z := S l)) (fun i σ H2 => (∃ x2, σ = [some (.str (S l)), some (.int (valOf (l.take i))), x2]) ∧ H2 = H' ∧ Digs (l.take i)) ⟨⟨_, rfl⟩, rfl, fun z hz => (by simp at hz)⟩ (fun _ _ _ _ _ => True.intro) ?_ ?_
  · rintro i y σ H1 H2 hi ⟨⟨x2, rfl⟩, rfl, dg⟩ ⟨rfl, c, hc, rfl⟩
    have ci : l[i]? = some c := by
      have z2 : ((S l).cps.toList)[i]? = some c := by rw [Array.getElem?_toList]; exact hc
      exact z2
    have cm : c ∈ l := List.mem_of_getElem? ci
    have tk : l.take (i + 1) = l.take i ++ [c] := by rw [List.take_succ, ci]; rfl
    have fg : c ∈ (Str.ofString "0123456789").cps.toList ↔ 48 ≤ c ∧ c ≤ 57 := by
      rw [figs_is]
      exact mem_figs
    have small := valOf_small dg (by rw [List.length_take]; omega)
    refine ⟨fun σ' H3 => σ' = [some (.str (S l)), some (.int (valOf (l.take i))), some (.str ⟨#[c]⟩)] ∧ H3 = H2 ∧ 48 ≤ c ∧ c ≤ 57, ?_, ?_⟩
    · walk_at "go"
      refine iteB (fun c3 => ?_) (fun c3 => ?_)
      · walk_at "go"
        exact no (numOf_no fun z => nndec c3 (fg.mpr (z.2.1 c cm)))
      · exact ⟨rfl, rfl, fg.mp (ndec c3)⟩
    rintro σ' H3 ⟨rfl, rfl, dc⟩
    walk_at "go"
    refine ⟨⟨_, rfl⟩, ?_⟩
    walk_at "go"
    have vs : 10 * valOf (l.take i) + Txt.find (Str.ofString "0123456789") ⟨#[c]⟩ = valOf (l.take (i + 1)) := by rw [tk, valOf_snoc, find_fig dc]
    refine ⟨⟨_, by rw [← vs]; rfl⟩, rfl, ?_⟩
    rw [tk]
    intro z hz
    rcases List.mem_append.mp hz with hz | hz
    · exact dg z hz
    · obtain rfl := List.mem_singleton.mp hz
      exact dc
  rintro σ H2 ⟨⟨x2, rfl⟩, rfl, dg⟩
  have e := numOf_is len15 (l := l) (by rw [show (S l).cps.size = l.length from sl, List.take_length] at dg; exact dg) z0
  rw [numV_is e] at q
  have ev : valOf (l.take (S l).cps.size) = valOf l := by rw [show (S l).cps.size = l.length from sl, List.take_length]
  rw [← ev] at q
  walk_at "go"
  exact q
/-! #### _law_off -/
def sp_law_off (K : PySem.W.Frag) : Sp := fun vs H Q _ => ∃ (l : Addr) (w : Str) (is : List Int) (p : Int), vs = [.ref l, .int p] ∧ H l = some (.lst (rawV w is)) ∧ ∃ len r, is = len :: r ∧ Q (.bl (decide (¬ (0 ≤ p ∧ p < len + (if w = "line" then 1 else 0))))) H
set_option maxHeartbeats 4000000 in
theorem ok_law_off (T : Txt K mg D) : FnOk P w K mg base CX0 1 (He.ga K "_law_off") (D "_law_off") ["_law_raw_here", "_law_place"] (sp_law_off K) := by
  refine T.F_law_off.ok sc_law_off (fun vs H Q E h => ?_) (fun cdv A outer s H vs Q E hr h => ?_)
  · obtain ⟨_, _, _, _, rfl, _⟩ := h
    rfl
  obtain ⟨l, w', is, p, rfl, hL, len, r, rfl, q⟩ := h
  refine ⟨_, PSs.nox (pss_one (ps_ret (pe_not (pe_chain op_le op_lt pe_int (pv 1) (pe_op op_add (pe_ix ix_list (pv 0) pe_int (fun _ _ => rfl)) (pe_callTy call_int1 rfl T.m_int (by decide +kernel) (pa_cons (pe_cmpR op_eq (pe_ix ix_list (pv 0) pe_int (fun _ _ => rfl)) pe_str (nomark _)) pa_nil))))))), ?_⟩
  have hLs : SqL K H l (rawV w' (len :: r)) := SqL.of hL
  have a0 : atI (rawV w' (len :: r)) 0 = some (.str w') := raw_0
  have a1 : atI (rawV w' (len :: r)) 1 = some (.int len) := raw_1
  walk_at "go"
  refine iteB (fun c => ?_) (fun c => ?_)
  · have c1 := of_decide_eq_true c
    walk_at "go"
    refine Or.inr ⟨_, rfl, ?_⟩
    walk_at "go"
    have e1 : (if decide (V.str w' = V.str (Str.ofString "line")) = true then (1 : Int) else 0) = if w' = "line" then 1 else 0 := by
      by_cases z : w' = "line"
      · subst z
        rw [if_pos rfl, if_pos (decide_eq_true rfl)]
      · rw [if_neg z, if_neg (fun y => z (V.str.inj (of_decide_eq_true y)))]
    rw [e1]
    have e2 : (!decide (p < len + if w' = "line" then 1 else 0)) = decide (¬ (0 ≤ p ∧ p < len + if w' = "line" then 1 else 0)) := by
      rw [← decide_not]
      exact dec_eq ⟨fun z y => z y.2, fun z y => z ⟨c1, y⟩⟩
    rw [← e2] at q
    exact q
  · have c1 := of_decide_eq_false c
    walk_at "go"
    have e : decide (¬ (0 ≤ p ∧ p < len + (if w' = "line" then 1 else 0))) = true := decide_eq_true (fun z => c1 z.1)
    rw [e] at q
    exact q
/-! #### check_stop -/
def sp_check_stop (K : PySem.W.Frag) : Sp := fun vs H Q E => ∃ (r t : Addr) (ring : Bool) (len : Int) (s : Stp), vs = [.ref r, .ref t] ∧ SqT K H r (roadV ring len) ∧ SqT K H t (stopV s) ∧
  (stopFlt ring len s = none → Q .non H) ∧ (∀ f, stopFlt ring len s = some f → E (.ref (fltC K f)) none H)
set_option maxHeartbeats 4000000 in
theorem ok_check_stop (T : Txt K mg D) : FnOk P w K mg base (L2.CX P w) 2 (He.ga K "check_stop") (D "check_stop") ["road", "stop"] (sp_check_stop K) := by
  refine T.F_check_stop.ok sc_check_stop (fun vs H Q E h => ?_) (fun cdv A outer s H vs Q E hr h => ?_)
  · obtain ⟨_, _, _, _, _, rfl, _⟩ := h
    rfl
  obtain ⟨r, t, ring, len, s, rfl, hR, hS, q1, q2⟩ := h
  refine ⟨_, (pss_cons (ps_asg (pv 1) (pg_tup rfl (pgs_cons (pg_name (i := 2) sc_check_stop.nd rfl (Or.inl rfl)) (pgs_cons (pg_name (i := 3) sc_check_stop.nd rfl (Or.inl rfl)) (pgs_cons (pg_name (i := 4) sc_check_stop.nd rfl (Or.inl rfl)) (pgs_cons (pg_name (i := 5) sc_check_stop.nd rfl (Or.inl rfl)) pgs_nil))))))
    (pss_cons (ps_if (pt_not (pt_val (pe_call (ok_has_place T) hr rfl T.m_has_place T.F_has_place.kp T.b_has_place .nil pass0 (pa_cons (pv 0) (pa_cons (pv 2) pa_nil))))) (pss_one (ps_raise rfl (takes_of rfl rfl rfl rfl) (pmk_own PySem.F.excBase_ValueError T.x_OffRoad T.m_OffRoad T.kp_OffRoad (raises_own T.sb_OffRoad T.ty_OffRoad) (by exact rfl)))) pss_nil)
    (pss_cons (ps_if (pt_not (PW.pt (pw_and (pt_val (pe_call (ok_is_time T) hr rfl T.m_is_time T.F_is_time.kp T.b_is_time .nil pass0 (pa_cons (pv 3) pa_nil))) (pw_and (pt_val (pe_call (ok_is_time T) hr rfl T.m_is_time T.F_is_time.kp T.b_is_time .nil pass0 (pa_cons (pv 4) pa_nil))) (pw_and1 (pt_val (pe_call (ok_is_time T) hr rfl T.m_is_time T.F_is_time.kp T.b_is_time .nil pass0 (pa_cons (pv 5) pa_nil)))))))) (pss_one (ps_raise rfl (takes_of rfl rfl rfl rfl) (pmk_own PySem.F.excBase_ValueError T.x_BadTime T.m_BadTime T.kp_BadTime (raises_own T.sb_BadTime T.ty_BadTime) (by exact rfl)))) pss_nil)
    (pss_one (ps_if (pt_cmpR op_lt (pv 4) (pv 3) (nomark _)) (pss_one (ps_raise rfl (takes_of rfl rfl rfl rfl) (pmk_own PySem.F.excBase_ValueError T.x_BadTime T.m_BadTime T.kp_BadTime (raises_own T.sb_BadTime T.ty_BadTime) (by exact rfl)))) pss_nil))))), ?_⟩
  refine ⟨_, rfl, t, _, rfl, hS, rfl, ?_⟩
  walk_at "go"
  refine ⟨r, ring, len, s.1, rfl, hR, ?_⟩
  walk_at "go"
  refine iteB (fun c => ?_) (fun c => ?_)
  · have c1 : ¬ onRoad ring len s.1 := fun z => by rw [decide_eq_true (show 0 ≤ s.1 ∧ s.1 < placesOf ring len from z)] at c; exact absurd c (by decide)
    exact q2 .off (by unfold stopFlt; rw [if_pos c1])
  · have c1 : onRoad ring len s.1 := by
      by_cases z : onRoad ring len s.1
      · exact z
      · rw [decide_eq_false (show ¬ (0 ≤ s.1 ∧ s.1 < placesOf ring len) from z)] at c; exact absurd c (by decide)
    have badT : ¬ (isTime s.2.1 ∧ isTime s.2.2.1 ∧ isTime s.2.2.2) → E (.ref (He.ga K "BadTime")) none H := fun z => q2 .time (by unfold stopFlt; rw [if_neg (fun y => y c1), if_pos z])
    walk_at "go"
    refine iteB (fun t1 => ?_) (fun t1 => ?_)
    case refine_2 =>
      refine iteTb rfl ?_
      exact badT fun z => of_decide_eq_false t1 z.1
    walk_at "go"
    refine iteB (fun t2 => ?_) (fun t2 => ?_)
    case refine_2 =>
      refine iteTb rfl ?_
      exact badT fun z => of_decide_eq_false t2 z.2.1
    walk_at "go"
    refine iteB (fun t3 => ?_) (fun t3 => ?_)
    · refine badT fun z => ?_
      rw [decide_eq_true z.2.2] at t3
      exact absurd t3 (by decide)
    have t3' : isTime s.2.2.2 := by
      by_cases z : isTime s.2.2.2
      · exact z
      · rw [decide_eq_false z] at t3; exact absurd t3 (by decide)
    have hT : isTime s.2.1 ∧ isTime s.2.2.1 ∧ isTime s.2.2.2 := ⟨of_decide_eq_true t1, of_decide_eq_true t2, t3'⟩
    walk_at "go"
    refine iteB (fun c2 => ?_) (fun c2 => ?_)
    · exact q2 .time (by unfold stopFlt; rw [if_neg (fun y => y c1), if_neg (fun y => y hT), if_pos (of_decide_eq_true c2)])
    · exact q1 (by unfold stopFlt; rw [if_neg (fun y => y c1), if_neg (fun y => y hT), if_neg (of_decide_eq_false c2)])
/-! #### numbers_of -/
def oneTwoFour (k : Nat) : Prop := k = 1 ∨ k = 2 ∨ k = 4
theorem picks {names ws : List (List Nat)} (h4 : oneTwoFour names.length) (hl : ws.length = 2 * names.length) : ∃ es os : List (List Nat), es.length = names.length ∧ os.length = names.length ∧
    pickI (ws.map (V.str ∘ S)) (stepIx none none 2 (ws.map (V.str ∘ S)).length) = es.map (V.str ∘ S) ∧ pickI (ws.map (V.str ∘ S)) (stepIx (some 1) none 2 (ws.map (V.str ∘ S)).length) = os.map (V.str ∘ S) ∧
    rowOf names ws = (if es = names then numsOf os else none) ∧ (∀ w ∈ es, w ∈ ws) ∧ ∀ w ∈ os, w ∈ ws := by
  rcases h4 with h | h | h
  · match names, ws, h, hl with
    | [a], [w, x], _, _ => exact ⟨[w], [x], rfl, rfl, pick_ev2 _ _, pick_od2 _ _, rowOf_one a w x, by simp, by simp⟩
  · match names, ws, h, hl with
    | [a, b], [w, x, y, z], _, _ => exact ⟨[w, y], [x, z], rfl, rfl, pick_ev4 _ _ _ _, pick_od4 _ _ _ _, rowOf_two a b w x y z, by simp, by simp⟩
  · match names, ws, h, hl with
    | [a, b, c, d], [w, x, y, z, p, q, r, s], _, _ => exact ⟨[w, y, p, r], [x, z, q, s], rfl, rfl, pick_ev8 _ _ _ _ _ _ _ _, pick_od8 _ _ _ _ _ _ _ _, rowOf_four a b c d w x y z p q r s, by simp, by simp⟩
def sp_numbers_of (K : PySem.W.Frag) : Sp := fun vs H Q E => ∃ (na : Addr) (names : List (List Nat)) (l : List Nat) (_u : Unit), vs = [.str (S l), .ref na] ∧ SqT K H na (names.map fun x => V.str (S x)) ∧ oneTwoFour names.length ∧ (∀ a ∈ names, Asc a) ∧ Asc l ∧ l.length ≤ 8000000 ∧
  (∀ ns, rowOf names (cutAt 32 l) = some ns → ∀ p H', Ex H H' → H p = none → H' p = some (.lst (ns.map V.int)) → Q (.ref p) H') ∧ (rowOf names (cutAt 32 l) = none → ∀ H', Ex H H' → E (.ref (He.ga K "NoDay")) none H')
set_option maxHeartbeats 4000000 in
theorem ok_numbers_of (T : Txt K mg D) : FnOk P w K mg base (L2.CX P w) 2 (He.ga K "numbers_of") (D "numbers_of") ["row", "names"] (sp_numbers_of K) := by
  refine T.F_numbers_of.ok sc_numbers_of (fun vs H Q E h => ?_) (fun cdv A outer s H vs Q E hr h => ?_)
  · obtain ⟨_, _, _, _, rfl, _⟩ := h
    rfl
  obtain ⟨na, names, l, _, rfl, hN, h4, aN, al, hl, q, qE⟩ := h
  refine ⟨_, (pss_cons (ps_set (i := 2) sc_numbers_of.nd rfl (Or.inl rfl) (pe_m1 PySem.F.slot_str_split PySem.F.type_str_split mt_split (pv 0) pe_str))
    (pss_cons (ps_if (PW.pt (pw_or (pt_cmpR op_ne (pe_callB call_len_seq rfl T.m_len PySem.boot_len (pa_cons (pv 2) pa_nil)) (pe_op op_mul pe_int (pe_callB call_len_seq rfl T.m_len PySem.boot_len (pa_cons (pv 1) pa_nil))) (nomark _)) (pw_or1 (pt_cmpR (op_neD hr.units) (pe_callTy call_tuple_of rfl T.m_tuple (by decide +kernel) (pa_cons (pe_sliceStep (by decide) (pv 2) po_none po_none) pa_nil)) (pv 1) (nomark _))))) (pss_one (ps_raise rfl (takes_of rfl rfl rfl rfl) (pmk_own PySem.F.excBase_ValueError T.x_NoDay T.m_NoDay T.kp_NoDay (raises_own T.sb_NoDay T.ty_NoDay) (by exact rfl)))) pss_nil)
    (pss_one (ps_ret (pe_lcX (E0 := E) (own := [("word", 3)]) (g := gName 3) (tt := tYes) rfl rfl (takes_of rfl rfl rfl rfl) rfl sc_numbers_of.nd (pi_list (pe_sliceStep (by decide) (pv 2) (po_some pe_int) po_none)) (blkOk_by (own := [("word", 3)]) (N := N_numbers_of) (sc := defScope s_numbers_of) (by decide +kernel)) (fun _ _ _ _ _ => pg_name (i := 3) sc_numbers_of.nd rfl (Or.inl rfl)) (fun _ _ _ _ _ => pts_nil) (fun _ _ _ _ _ px => (by refine' pe_eq (t' := ?tt1) (pe_call (ok_number_of T) hr rfl T.m_number_of T.F_number_of.kp T.b_number_of .nil px (pa_cons (pv 3) pa_nil)) ?qq1; case qq1 => (first | (dsimp only [blkX, L2.Cx.blk]; done) | (dsimp only [blkX, L2.Cx.blk]; rfl) | rfl)))))))), ?_⟩
  walk_at "go"
  refine ⟨⟨_, rfl⟩, ?_⟩
  walk_at "go"
  have asc := fun w (hw : w ∈ cutAt 32 l) => al.cut hw
  have siz := fun w (hw : w ∈ cutAt 32 l) => (cutAt_sub 32 l w hw).2
  have many := cutAt_len 32 l
  generalize hws : cutAt 32 l = ws at q qE asc siz many
  refine ⟨szB (by rw [S_len]; omega), fun p hp => ?_⟩
  rw [sp_S, split_cut (by decide), hws, List.map_map]
  have e1 := Evl.Ex.new (o := .lst (ws.map (V.str ∘ S))) hp
  have h1 : (upd H p (.lst (ws.map (V.str ∘ S)))) p = some (.lst (ws.map (V.str ∘ S))) := upd_same
  generalize upd H p (.lst (ws.map (V.str ∘ S))) = H1 at e1 h1
  have hN1 := Evl.ex_t e1 hN
  have lw : (ws.map (V.str ∘ S)).length = ws.length := List.length_map _
  have ln : (names.map fun x => V.str (S x)).length = names.length := List.length_map _
  have hwsL : SqL K H1 p (ws.map (V.str ∘ S)) := SqL.of h1
  walk_at "go"
  refine iteB (fun c => ?_) (fun c => ?_)
  · exact qE (rowOf_short fun z => nndec c (congrArg V.int (by rw [lw, ln]; omega))) H1 e1
  have c1 : ws.length = 2 * names.length := by
    have z := V.int.inj (ndec c)
    rw [lw, ln] at z
    omega
  obtain ⟨es, os, le, lo, pe, po, ro, me, mo⟩ := picks h4 c1
  rw [ro] at q qE
  have n4 : names.length ≤ 4 := by rcases h4 with z | z | z <;> omega
  walk_at "go"
  rw [pe]
  refine ⟨szB (by rw [List.length_map]; omega), fun p2 hp2 => ?_⟩
  have e2 := Evl.Ex.new (o := .lst (es.map (V.str ∘ S))) hp2
  have h2 : (upd H1 p2 (.lst (es.map (V.str ∘ S)))) p2 = some (.lst (es.map (V.str ∘ S))) := upd_same
  generalize upd H1 p2 (.lst (es.map (V.str ∘ S))) = H2 at e2 h2
  walk_at "go"
  refine ⟨_, _, rfl, Or.inl ⟨SqL.of h2, fun p3 hp3 => ?_⟩⟩
  have e3 := Evl.Ex.new (o := .tup (es.map (V.str ∘ S))) hp3
  have h3 : (upd H2 p3 (.tup (es.map (V.str ∘ S)))) p3 = some (.tup (es.map fun x => V.str (S x))) := upd_same
  generalize upd H2 p3 (.tup (es.map (V.str ∘ S))) = H3 at e3 h3
  have e13 := e2.trans e3
  walk_at "go"
  have big : ∀ {x : List Nat}, Asc x → ∀ c ∈ x, c < 1114112 := fun a c hc => Nat.lt_trans (a c hc) (by decide)
  have shE := shaped_strs (ls := es) fun x hx => big (asc x (me x hx))
  have shN := shaped_strs (ls := names) fun x hx => big (aN x hx)
  refine ⟨strsD es, strsD names, strs_dp (SqT.of h3), strs_dp (Evl.ex_t e13 hN1), shE, shN, ?_⟩
  rw [strs_eqv]
  walk_at "go"
  refine iteB (fun c2 => ?_) (fun c2 => ?_)
  · exact qE (if_neg (nndec c2)) H3 (e1.trans e13)
  have c3 := ndec c2
  rw [if_pos c3] at q qE
  have hws3 : SqL K H3 p (ws.map (V.str ∘ S)) := SqL.of (e13 _ _ h1)
  walk_at "go"
  rw [po]
  have lns : (os.map (V.str ∘ S)).length = os.length := List.length_map _
  refine ⟨szB (by rw [lns]; omega), fun p4 hp4 => ?_⟩
  have e4 := Evl.Ex.new (o := .lst (os.map (V.str ∘ S))) hp4
  have h4_ : (upd H3 p4 (.lst (os.map (V.str ∘ S)))) p4 = some (.lst (os.map (V.str ∘ S))) := upd_same
  generalize upd H3 p4 (.lst (os.map (V.str ∘ S))) = H4 at e4 h4_
  have e04 := (e1.trans e13).trans e4
  walk_at "go"
  refine ⟨⟨_, SqL.of h4_⟩, fun D hDn => lc_list (K := K) (a := p4) (xs := os.map (V.str ∘ S)) (fun i H' => ∃ ns, Ex H4 H' ∧ numsOf (os.take i) = some ns ∧ H' D = some (.lst (ns.map V.int)) ∧ ns.length = i) ⟨[], Evl.Ex.new hDn, rfl, upd_same, rfl⟩ (fun i H' _ z => ?_) ?_ ?_⟩
  · obtain ⟨_, ex, _⟩ := z
    exact Evl.ex_l ex (SqL.of h4_)
  · rintro i y H' hi ⟨ns, ex, hns, hd, hln⟩
    rw [List.getElem?_map] at hi
    cases hn : os[i]? with
    | none => rw [hn] at hi; cases hi
    | some w =>
      rw [hn] at hi
      obtain rfl := Option.some.inj hi
      have wm := mo w (List.mem_of_getElem? hn)
      have il : i < os.length := (List.getElem?_eq_some_iff.mp hn).1
      have tk : os.take (i + 1) = os.take i ++ [w] := by rw [List.take_succ, hn]; rfl
      have sp : os = os.take i ++ w :: os.drop (i + 1) := by
        have z := List.take_append_drop i os
        rw [List.drop_eq_getElem_cons il, (List.getElem?_eq_some_iff.mp hn).2] at z
        exact z.symm
      walk_at "go"
      refine ⟨Nat.le_trans (siz w wm) hl, fun n hn2 => ?_, fun hn2 => ?_⟩
      · walk_at "go"
        refine ⟨_, hd, szb (by rw [List.length_map]; omega), ns ++ [n], Evl.Ex.mut ex hDn, ?_, ?_, ?_⟩
        · rw [tk]; exact numsOf_snoc hns hn2
        · rw [upd_same, List.map_append]; rfl
        · rw [List.length_append, hln]; rfl
      · refine qE ?_ H' (e04.trans ex)
        rw [sp]
        exact numsOf_bad hn2
  rintro H5 ⟨ns, e5, hns, hD, _⟩
  rw [lns, List.take_length] at hns
  walk_at "go"
  exact q ns hns D H5 (e04.trans e5) (none_of_ex e04 hDn) hD
/-! #### _law_text_by -/
def sp_law_text_by (K : PySem.W.Frag) : Sp := fun vs H Q _ => ∃ (a : Addr) (ns : List Int), vs = [.ref a] ∧ SqL K H a (ns.map V.int) ∧ ns.length ≤ 63 ∧ ∀ l H', Asc l → l.length ≤ 2000000 → Ex H H' → Q (.str (S l)) H'
set_option maxHeartbeats 4000000 in
theorem ok_law_text_by (T : Txt K mg D) : FnOk P w K mg base CX0 2 (He.ga K "_law_text_by") (D "_law_text_by") ["_law_script"] (sp_law_text_by K) := by
  refine T.F_law_text_by.ok sc_law_text_by (fun vs H Q E h => ?_) (fun cdv A outer s H vs Q E hr h => ?_)
  · obtain ⟨_, _, rfl, _⟩ := h
    rfl
  obtain ⟨a, ns, rfl, hS, hn, q⟩ := h
  refine ⟨_, PSs.nox (pss_cons (ps_setLc (i := 1) (own := [("_law_k", 2)]) (g := gName 2) (tt := tYes) rfl sc_law_text_by.nd rfl rfl (sw_true rfl rfl rfl (by decide +kernel)) (pi_range1 rfl T.m_range (pa_cons pe_int pa_nil)) (blkOk_by (own := [("_law_k", 2)]) (N := N_law_text_by) (sc := defScope s_law_text_by) (by decide +kernel)) (fun _ _ _ _ _ => pg_name (i := 2) sc_law_text_by.nd rfl (Or.inl rfl)) (fun _ _ _ _ _ => pts_nil) (fun _ _ _ _ _ => (by refine' pe_eq (t' := ?tt3) (pe_call (ok_law_cell_at T) hr rfl T.m_law_cell_at T.F_law_cell_at.kp T.b_law_cell_at .nil pass0 (pa_cons (pv 0) (pa_cons (pv 2) pa_nil))) ?qq3; case qq3 => (first | (dsimp only [L2.Cx.blk]; done) | (dsimp only [L2.Cx.blk]; rfl) | rfl))))
    (pss_cons (ps_set (i := 3) sc_law_text_by.nd rfl (Or.inl rfl) (pe_op op_add_str (pe_op op_add_str (pe_ix ix_list (pe_lst (pa_cons pe_str (pa_cons pe_str pa_nil))) (pe_op op_mod (pe_ix ix_list (pv 1) pe_int (fun _ _ => rfl)) pe_int) (fun _ _ => rfl)) (pe_call (ok_law_number T) hr rfl T.m_law_number T.F_law_number.kp T.b_law_number .nil pass0 (pa_cons (pe_op op_fdiv (pe_ix ix_list (pv 1) pe_int (fun _ _ => rfl)) pe_int) (pa_cons pe_int (pa_cons pe_int pa_nil))))) pe_str))
    (pss_cons (ps_set (i := 3) sc_law_text_by.nd rfl (Or.inl rfl) (pe_op op_add_str (pe_op op_add_str (pe_op op_add_str (pe_op op_add_str (pe_op op_add_str (pv 3) pe_str) (pe_call (ok_law_number T) hr rfl T.m_law_number T.F_law_number.kp T.b_law_number .nil pass0 (pa_cons (pe_ix ix_list (pv 1) pe_int (fun _ _ => rfl)) (pa_cons pe_int (pa_cons pe_int pa_nil))))) pe_str) (pe_call (ok_law_number T) hr rfl T.m_law_number T.F_law_number.kp T.b_law_number .nil pass0 (pa_cons (pe_ix ix_list (pv 1) pe_int (fun _ _ => rfl)) (pa_cons pe_int (pa_cons pe_int pa_nil))))) pe_str))
    (pss_cons (ps_for PassesOwn.never rfl (pi_range1 rfl T.m_range (pa_cons (pe_op op_mul (pe_op op_mod (pe_ix ix_list (pv 1) pe_int (fun _ _ => rfl)) pe_int) (pe_op op_add pe_int (pe_op op_mul pe_int (pe_callTy call_int1 rfl T.m_int (by decide +kernel) (pa_cons (pe_cmpR op_eq (pe_op op_mod (pe_op op_fdiv (pe_ix ix_list (pv 1) pe_int (fun _ _ => rfl)) pe_int) pe_int) pe_int (nomark _)) pa_nil))))) pa_nil)) (pg_name (i := 2) sc_law_text_by.nd rfl (Or.inl rfl))
      (pss_cons (ps_set (i := 3) sc_law_text_by.nd rfl (Or.inl rfl) (pe_op op_add_str (pe_op op_add_str (pv 3) pe_str) (pe_call (ok_law_number T) hr rfl T.m_law_number T.F_law_number.kp T.b_law_number .nil pass0 (pa_cons (pe_ix ix_list (pv 1) (pe_op op_add pe_int (pe_op op_mod (pe_op op_mul pe_int (pv 2)) pe_int)) (fun _ _ => rfl)) (pa_cons pe_int (pa_cons pe_int pa_nil))))))
      (pss_cons (ps_set (i := 3) sc_law_text_by.nd rfl (Or.inl rfl) (pe_op op_add_str (pe_op op_add_str (pv 3) pe_str) (pe_call (ok_law_number T) hr rfl T.m_law_number T.F_law_number.kp T.b_law_number .nil pass0 (pa_cons (pe_ix ix_list (pv 1) (pe_op op_add pe_int (pe_op op_mod (pe_op op_add (pe_op op_mul pe_int (pv 2)) pe_int) pe_int)) (fun _ _ => rfl)) (pa_cons pe_int (pa_cons pe_int pa_nil))))))
      (pss_cons (ps_set (i := 3) sc_law_text_by.nd rfl (Or.inl rfl) (pe_op op_add_str (pe_op op_add_str (pv 3) pe_str) (pe_call (ok_law_number T) hr rfl T.m_law_number T.F_law_number.kp T.b_law_number .nil pass0 (pa_cons (pe_ix ix_list (pv 1) (pe_op op_add pe_int (pe_op op_mod (pe_op op_add (pe_op op_mul pe_int (pv 2)) pe_int) pe_int)) (fun _ _ => rfl)) (pa_cons pe_int (pa_cons pe_int pa_nil))))))
      (pss_one (ps_set (i := 3) sc_law_text_by.nd rfl (Or.inl rfl) (pe_op op_add_str (pe_op op_add_str (pe_op op_add_str (pv 3) pe_str) (pe_call (ok_law_number T) hr rfl T.m_law_number T.F_law_number.kp T.b_law_number .nil pass0 (pa_cons (pe_ix ix_list (pv 1) (pe_op op_add pe_int (pe_op op_mod (pe_op op_add (pe_op op_mul pe_int (pv 2)) pe_int) pe_int)) (fun _ _ => rfl)) (pa_cons pe_int (pa_cons pe_int pa_nil))))) pe_str)))))))
    (pss_cons (ps_if (pt_cmpR op_eq (pe_op op_mod (pe_ix ix_list (pv 1) pe_int (fun _ _ => rfl)) pe_int) pe_int (nomark _)) (pss_one (ps_ret (pe_slice sl_str (pv 3) po_none (po_some (pe_un un_neg pe_int))))) pss_nil)
    (pss_cons (ps_if (pt_cmpR op_eq (pe_op op_mod (pe_ix ix_list (pv 1) pe_int (fun _ _ => rfl)) pe_int) pe_int (nomark _)) (pss_one (ps_ret (pe_op op_add_str (pv 3) pe_str))) pss_nil)
    (pss_cons (ps_ifT op_eq (pe_op op_mod (pe_ix ix_list (pv 1) pe_int (fun _ _ => rfl)) pe_int) (nomark _) (CwR.psst_one (CwR.pst_ret (pet_repl1 (pv 3)))) pss_nil)
    (pss_cons (ps_ifT op_eq (pe_op op_mod (pe_ix ix_list (pv 1) pe_int (fun _ _ => rfl)) pe_int) (nomark _) (CwR.psst_one (CwR.pst_ret (CwR.pet_replC (pv 3)))) pss_nil)
    (pss_one (ps_ret (pv 3))))))))))), ?_⟩
  dsimp only [L2.cxOf, L2.Cx.nox]
  walk_at "go"
  intro D hD
  refine lc_range (lo := 0) (n := 36) (fun i H' => ∃ ts : List Int, ts.length = i ∧ Ex H H' ∧ H' D = some (.lst (ts.map V.int))) ⟨[], rfl, Evl.Ex.new hD, upd_same⟩ ?_ ?_
  · rintro i H' hi ⟨ts, lt, et, hd⟩
    walk_at "go"
    refine ⟨a, ns, _, rfl, Evl.ex_l et hS, hn, fun v => ?_⟩
    refine ⟨ts.map V.int, hd, Evl.sz_lt (by rw [List.length_map]; omega), ts ++ [v], ?_, Evl.Ex.mut et hD, ?_⟩
    · rw [List.length_append, lt]; rfl
    · rw [upd_same, List.map_append]; rfl
  rintro H1 ⟨ts, lt, e1, hD1⟩
  have hDs : SqL K H1 D (ts.map V.int) := SqL.of hD1
  have lm : (ts.map V.int).length = 36 := by rw [List.length_map, lt]
  have cell : ∀ i : Int, 0 ≤ i → i < 36 → ∃ v : Int, atI (ts.map V.int) i = some (.int v) := fun i h0 h1 => by
    obtain ⟨v, hv, hv2⟩ := atI_lt (xs := ts.map V.int) h0 (by rw [lm]; exact h1)
    obtain ⟨w, _, rfl⟩ := map_int_get hv2
    exact ⟨w, hv⟩
  obtain ⟨v0, c0⟩ := cell 0 (by decide) (by decide)
  obtain ⟨v1, c1⟩ := cell 1 (by decide) (by decide)
  obtain ⟨v2, c2⟩ := cell 2 (by decide) (by decide)
  obtain ⟨v3, c3⟩ := cell 3 (by decide) (by decide)
  obtain ⟨v34, c34⟩ := cell 34 (by decide) (by decide)
  walk_at "go"
  have b5 : ∀ x ∈ [(Str.ofString "line "), (Str.ofString "ring ")], AscS x 5 := fun x hx => by
    rcases List.mem_cons.mp hx with rfl | hx
    · exact ascLit (by decide +kernel)
    · obtain rfl := List.mem_singleton.mp hx
      exact ascLit (by decide +kernel)
  have lnl : AscS (Str.ofString "\n") 1 := ascLit (by decide +kernel)
  have lhome : AscS (Str.ofString "home ") 5 := ascLit (by decide +kernel)
  have lat : AscS (Str.ofString " at ") 4 := ascLit (by decide +kernel)
  intro p hp
  have e2 := Evl.Ex.new (o := .lst ([(Str.ofString "line "), (Str.ofString "ring ")].map V.str)) hp
  have h2 : (upd H1 p (.lst ([(Str.ofString "line "), (Str.ofString "ring ")].map V.str))) p = some (.lst ([(Str.ofString "line "), (Str.ofString "ring ")].map V.str)) := upd_same
  have same : [V.str (Str.ofString "line "), V.str (Str.ofString "ring ")] = [(Str.ofString "line "), (Str.ofString "ring ")].map V.str := rfl
  rw [same]
  generalize upd H1 p (.lst ([(Str.ofString "line "), (Str.ofString "ring ")].map V.str)) = H2 at e2 h2
  have hD2 := Evl.ex_l e2 hDs
  have hp2 : SqL K H2 p ([(Str.ofString "line "), (Str.ofString "ring ")].map V.str) := SqL.of h2
  obtain ⟨w0, hw0, aw0⟩ := str_at (i := v0 % 2) b5 (Int.emod_nonneg _ (by decide)) (Int.emod_lt_of_pos _ (by decide))
  walk_at "go"
  refine ⟨v0 / 2, 10, 40, rfl, by decide, by decide, by decide, by decide, fun l H3 al hl e3 => ?_⟩
  have a1 := aw0.app (AscS.ofS al hl)
  walk_at "go"
  refine ⟨szB (Nat.le_trans (Nat.add_le_add aw0.2 (AscS.ofS al hl).2) (by decide)), ?_⟩
  walk_at "go"
  refine ⟨szB (Nat.le_trans (Nat.add_le_add a1.2 lnl.2) (by decide)), ?_⟩
  have a2 := a1.app lnl
  generalize w0 ++ S l ++ Str.ofString "\n" = x0 at a2 ⊢
  have hD3 := Evl.ex_l e3 hD2
  walk_at "go"
  refine ⟨szB (Nat.le_trans (Nat.add_le_add a2.2 lhome.2) (by decide)), ?_⟩
  have a3 := a2.app lhome
  walk_at "go"
  refine ⟨v1, 0, 10, rfl, by decide, by decide, by decide, by decide, fun l H4 al hl e4 => ?_⟩
  refine ⟨_, _, rfl, rfl, szB (Nat.le_trans (Nat.add_le_add a3.2 (AscS.ofS al hl).2) (by decide)), ?_⟩
  have a4 := a3.app (AscS.ofS al hl)
  have hD4 := Evl.ex_l e4 hD3
  walk_at "go"
  refine ⟨szApp a4 lat (by decide), ?_⟩
  have a5 := a4.app lat
  walk_at "go"
  refine ⟨v2, 0, 31, rfl, by decide, by decide, by decide, by decide, fun l H5 al hl e5 => ?_⟩
  refine ⟨_, _, rfl, rfl, szApp a5 (AscS.ofS al hl) (by decide), ?_⟩
  have a6 := a5.app (AscS.ofS al hl)
  have hD5 := Evl.ex_l e5 hD4
  walk_at "go"
  refine ⟨szApp a6 lnl (by decide), ?_⟩
  have a7 := (a6.app lnl).mono (show _ ≤ 20000 by decide)
  generalize (_ ++ Str.ofString "\n" : Str) = x1 at a7 ⊢
  have e05 := (((e1.trans e2).trans e3).trans e4).trans e5
  clear a1 a2 a3 a4 a5 a6 e1 e2 e3 e4 e5 hD2 hD3 hD4
  walk_at "go"
  refine Or.inr ⟨_, rfl, ?_⟩
  obtain ⟨z, hz, z0, z1⟩ : ∃ z : Int, (if decide (V.int (v3 / 9 % 9) = V.int 1) = true then (1 : Int) else 0) = z ∧ 0 ≤ z ∧ z ≤ 1 := ⟨_, rfl, by split <;> decide, by split <;> decide⟩
  rw [hz]
  walk_at "go"
  have r0 := Int.emod_nonneg v3 (show (9 : Int) ≠ 0 by decide)
  have r1 := Int.emod_lt_of_pos v3 (show (0 : Int) < 9 by decide)
  obtain ⟨j, hj, j0, j1⟩ : ∃ j : Int, v3 % 9 * (1 + 2 * z) = j ∧ 0 ≤ j ∧ j ≤ 24 := by
    refine ⟨_, rfl, Int.mul_nonneg r0 (by omega), ?_⟩
    rcases (show z = 0 ∨ z = 1 by omega) with rfl | rfl <;> omega
  refine ⟨Or.inl ⟨by omega, by omega⟩, ?_⟩
  show _
  walk_at "go"
  have lstop : AscS (Str.ofString "stop ") 5 := ascLit (by decide +kernel)
  have lfrom : AscS (Str.ofString " from ") 6 := ascLit (by decide +kernel)
  have lto : AscS (Str.ofString " to ") 4 := ascLit (by decide +kernel)
  have lfor : AscS (Str.ofString " for ") 5 := ascLit (by decide +kernel)
  refine for_range (lo := 0) (n := (v3 % 9 * (1 + 2 * z)).toNat) (fun i σ H' => (∃ (x : Str) (xk : Option V), σ = [some (.ref a), some (.ref D), xk, some (.str x)] ∧ AscS x (20000 + i * 20100)) ∧ Ex H5 H') ⟨⟨x1, _, rfl, a7⟩, fun _ _ z => z⟩ ?_ ?_
  · rintro i σ H' hi ⟨⟨x, xk, rfl, ax⟩, ex⟩
    have hi24 : i < 24 := by omega
    have ax2 := ax.mono (show _ ≤ 600000 by omega)
    have hD' := Evl.ex_l ex hD5
    obtain ⟨u0, d0⟩ := cell (4 + 4 * (0 + (i : Int)) % 32) (by omega) (by omega)
    obtain ⟨u1, d1⟩ := cell (4 + (4 * (0 + (i : Int)) + 1) % 32) (by omega) (by omega)
    obtain ⟨u2, d2⟩ := cell (4 + (4 * (0 + (i : Int)) + 2) % 32) (by omega) (by omega)
    obtain ⟨u3, d3⟩ := cell (4 + (4 * (0 + (i : Int)) + 3) % 32) (by omega) (by omega)
    walk_at "go"
    refine ⟨szApp ax2 lstop (by decide), ?_⟩
    have a1 := ax.app lstop
    have b1 := ax2.app lstop
    walk_at "go"
    refine ⟨u0, 0, 10, rfl, by decide, by decide, by decide, by decide, fun l H6 al hl e6 => ?_⟩
    refine ⟨_, _, rfl, rfl, szApp b1 (AscS.ofS al hl) (by decide), ?_⟩
    have a2 := a1.app (AscS.ofS al hl)
    have b2 := b1.app (AscS.ofS al hl)
    clear a1 b1
    generalize x ++ Str.ofString "stop " ++ S l = y1 at a2 b2 ⊢
    have hD6 := Evl.ex_l e6 hD'
    walk_at "go"
    refine ⟨szApp b2 lfrom (by decide), ?_⟩
    have a3 := a2.app lfrom
    have b3 := b2.app lfrom
    walk_at "go"
    refine ⟨u1, 0, 31, rfl, by decide, by decide, by decide, by decide, fun l H7 al hl e7 => ?_⟩
    refine ⟨_, _, rfl, rfl, szApp b3 (AscS.ofS al hl) (by decide), ?_⟩
    have a4 := a3.app (AscS.ofS al hl)
    have b4 := b3.app (AscS.ofS al hl)
    clear a2 b2 a3 b3
    generalize y1 ++ Str.ofString " from " ++ S l = y2 at a4 b4 ⊢
    have hD7 := Evl.ex_l e7 hD6
    walk_at "go"
    refine ⟨szApp b4 lto (by decide), ?_⟩
    have a5 := a4.app lto
    have b5 := b4.app lto
    walk_at "go"
    refine ⟨u2, 30, 31, rfl, by decide, by decide, by decide, by decide, fun l H8 al hl e8 => ?_⟩
    refine ⟨_, _, rfl, rfl, szApp b5 (AscS.ofS al hl) (by decide), ?_⟩
    have a6 := a5.app (AscS.ofS al hl)
    have b6 := b5.app (AscS.ofS al hl)
    clear a4 b4 a5 b5
    generalize y2 ++ Str.ofString " to " ++ S l = y3 at a6 b6 ⊢
    have hD8 := Evl.ex_l e8 hD7
    walk_at "go"
    refine ⟨szApp b6 lfor (by decide), ?_⟩
    have a7 := a6.app lfor
    have b7 := b6.app lfor
    walk_at "go"
    refine ⟨u3, 0, 10, rfl, by decide, by decide, by decide, by decide, fun l H9 al hl e9 => ?_⟩
    refine ⟨_, _, rfl, rfl, szApp b7 (AscS.ofS al hl) (by decide), ?_⟩
    have a8 := a7.app (AscS.ofS al hl)
    have b8 := b7.app (AscS.ofS al hl)
    clear a6 b6 a7 b7
    walk_at "go"
    refine ⟨szApp b8 lnl (by decide), ?_⟩
    have a9 := a8.app lnl
    walk_at "go"
    exact ⟨⟨_, _, rfl, a9.mono (by omega)⟩, (((ex.trans e6).trans e7).trans e8).trans e9⟩
  rintro σ H6 ⟨⟨x, xk, rfl, ax⟩, e6⟩
  have ax2 := ax.mono (show _ ≤ 600000 by omega)
  have hD6 := Evl.ex_l e6 hD5
  have e06 := e05.trans e6
  clear ax
  walk_at "go"
  refine iteB (fun g1 => ?_) (fun g1 => ?_)
  · walk_at "go"
    refine ⟨szB (Nat.le_trans ax2.2 (by decide)), ?_⟩
    rw [S_of x, cut_last]
    exact q _ H6 (ax2.1.sub fun z hz => List.dropLast_subset _ hz) (by rw [List.length_dropLast, ← len_tl]; have := ax2.2; omega) e06
  walk_at "go"
  refine iteB (fun g2 => ?_) (fun g2 => ?_)
  · walk_at "go"
    refine ⟨szApp ax2 lnl (by decide), ?_⟩
    have af := ax2.app lnl
    rw [S_of (x ++ Str.ofString "\n")]
    exact q _ H6 af.1 (by rw [← len_tl]; exact Nat.le_trans af.2 (by decide)) e06
  walk_at "go"
  refine iteB (fun g3 => ?_) (fun g3 => ?_)
  · walk_at "go"
    have l2 : AscS (Str.ofString "  ") 2 := ascLit (by decide +kernel)
    refine ⟨szApp ax2 l2 (by decide), fun r hr nr => ?_⟩
    rw [S_of r]
    exact q _ H6 (fun c hc => (hr c hc).elim (ax2.1 c) (l2.1 c)) (by rw [← len_tl]; exact Nat.le_trans nr (Nat.le_trans (Nat.add_le_add ax2.2 l2.2) (by decide))) e06
  walk_at "go"
  refine iteB (fun g4 => ?_) (fun g4 => ?_)
  · walk_at "go"
    have lt1 : AscS (Str.ofString "\t") 1 := ascLit (by decide +kernel)
    have bound : x.length + (x.length + 1) * (Str.ofString "\t").length ≤ 1300000 := Nat.le_trans (Nat.add_le_add ax2.2 (Nat.mul_le_mul (Nat.succ_le_succ ax2.2) lt1.2)) (by decide)
    refine ⟨Nat.le_trans bound (by decide), ?_⟩
    rw [S_of (Txt.replace x _ _)]
    exact q _ H6 (fun c hc => (replace_mem hc).elim (ax2.1 c) (lt1.1 c)) (by rw [← len_tl]; exact Nat.le_trans (replace_size _ _ _) (Nat.le_trans bound (by decide))) e06
  walk_at "go"
  rw [S_of x]
  exact q _ H6 ax2.1 (by rw [← len_tl]; exact Nat.le_trans ax2.2 (by decide)) e06
/-! #### _law_read_row -/
theorem row_drop {names ws : List (List Nat)} {i : Nat} {a w x : List Nat} (ha : names[i]? = some a) (hw : ws[2 * i]? = some w) (hx : ws[2 * i + 1]? = some x) :
    rowOf (names.drop i) (ws.drop (2 * i)) = if w = a then match numOf x, rowOf (names.drop (i + 1)) (ws.drop (2 * (i + 1))) with
      | some n, some ms => some (n :: ms)
      | _, _ => none
      else none := by
  obtain ⟨h1, e1⟩ := List.getElem?_eq_some_iff.mp ha
  obtain ⟨h2, e2⟩ := List.getElem?_eq_some_iff.mp hw
  obtain ⟨h3, e3⟩ := List.getElem?_eq_some_iff.mp hx
  rw [List.drop_eq_getElem_cons h1, e1, List.drop_eq_getElem_cons h2, e2, List.drop_eq_getElem_cons h3, e3]
  rfl
theorem row_end {names ws : List (List Nat)} (h : ws.length = 2 * names.length) : rowOf (names.drop names.length) (ws.drop (2 * names.length)) = some [] := by
  rw [List.drop_length, ← h, List.drop_length]
  rfl
def sp_law_read_row (K : PySem.W.Frag) : Sp := fun vs H Q _ => ∃ (na : Addr) (names : List (List Nat)) (l : List Nat) (_u : Unit), vs = [.str (S l), .ref na] ∧ SqL K H na (names.map (V.str ∘ S)) ∧ names.length ≤ 4 ∧ l.length ≤ 8000000 ∧
  (rowOf names (cutAt 32 l) = none → ∀ H', Ex H H' → Q .non H') ∧ ∀ ns, rowOf names (cutAt 32 l) = some ns → ∀ p H', Ex H H' → H p = none → H' p = some (.lst (ns.map V.int)) → Q (.ref p) H'
set_option maxHeartbeats 4000000 in
theorem ok_law_read_row (T : Txt K mg D) : FnOk P w K mg base CX0 2 (He.ga K "_law_read_row") (D "_law_read_row") ["_law_row", "_law_names"] (sp_law_read_row K) := by
  refine T.F_law_read_row.ok sc_law_read_row (fun vs H Q E h => ?_) (fun cdv A outer s H vs Q E hr h => ?_)
  · obtain ⟨_, _, _, _, rfl, _⟩ := h
    rfl
  obtain ⟨na, names, l, _, rfl, hN, h4, hl, qN, q⟩ := h
  refine ⟨_, PSs.nox (pss_cons (ps_set (i := 2) sc_law_read_row.nd rfl (Or.inl rfl) (pe_m1 PySem.F.slot_str_split PySem.F.type_str_split mt_split (pv 0) pe_str))
    (pss_cons (ps_if (pt_cmpR op_ne (pe_callB call_len_seq rfl T.m_len PySem.boot_len (pa_cons (pv 2) pa_nil)) (pe_op op_mul pe_int (pe_callB call_len_seq rfl T.m_len PySem.boot_len (pa_cons (pv 1) pa_nil))) (nomark _)) (pss_one (ps_ret pe_non)) pss_nil)
    (pss_cons (ps_set (i := 3) sc_law_read_row.nd rfl (Or.inl rfl) (pe_lst pa_nil))
    (pss_cons (ps_for PassesOwn.never rfl (pi_range1 rfl T.m_range (pa_cons (pe_callB call_len_seq rfl T.m_len PySem.boot_len (pa_cons (pv 1) pa_nil)) pa_nil)) (pg_name (i := 4) sc_law_read_row.nd rfl (Or.inl rfl))
      (pss_cons (ps_if (PW.pt (pw_or (pt_cmpR op_ne (pe_ix ix_list (pv 2) (pe_op op_mul pe_int (pv 4)) (fun _ _ => rfl)) (pe_ix ix_list (pv 1) (pv 4) (fun _ _ => rfl)) (nomark _)) (pw_or1 (pt_cmpR op_isN1 (pe_call (ok_law_read_number T) hr rfl T.m_law_read_number T.F_law_read_number.kp T.b_law_read_number .nil pass0 (pa_cons (pe_ix ix_list (pv 2) (pe_op op_add (pe_op op_mul pe_int (pv 4)) pe_int) (fun _ _ => rfl)) pa_nil)) pe_non (nomark _))))) (pss_one (ps_ret pe_non)) pss_nil)
      (pss_one (ps_expr (pe_bm PySem.F.plainAttrs_list PySem.F.slot_list_append PySem.F.type_list_append mt_append (pv 3) (pa_cons (pe_call (ok_law_read_number T) hr rfl T.m_law_read_number T.F_law_read_number.kp T.b_law_read_number .nil pass0 (pa_cons (pe_ix ix_list (pv 2) (pe_op op_add (pe_op op_mul pe_int (pv 4)) pe_int) (fun _ _ => rfl)) pa_nil)) pa_nil))))))
    (pss_one (ps_ret (pv 3))))))), ?_⟩
  walk_at "go"
  refine ⟨⟨_, rfl⟩, ?_⟩
  walk_at "go"
  have siz := fun w (hw : w ∈ cutAt 32 l) => (cutAt_sub 32 l w hw).2
  have many := cutAt_len 32 l
  generalize hws : cutAt 32 l = ws at q qN siz many
  refine ⟨szB (by rw [S_len]; omega), fun p hp => ?_⟩
  rw [sp_S, split_cut (by decide), hws, List.map_map]
  have e1 := Evl.Ex.new (o := .lst (ws.map (V.str ∘ S))) hp
  have h1 : (upd H p (.lst (ws.map (V.str ∘ S)))) p = some (.lst (ws.map (V.str ∘ S))) := upd_same
  generalize upd H p (.lst (ws.map (V.str ∘ S))) = H1 at e1 h1
  have hN1 := Evl.ex_l e1 hN
  have lw : (ws.map (V.str ∘ S)).length = ws.length := List.length_map _
  have ln : (names.map (V.str ∘ S)).length = names.length := List.length_map _
  have hwsL : SqL K H1 p (ws.map (V.str ∘ S)) := SqL.of h1
  walk_at "go"
  refine iteB (fun c => ?_) (fun c => ?_)
  · walk_at "go"
    exact qN (rowOf_short fun z => nndec c (congrArg V.int (by rw [lw, ln]; omega))) H1 e1
  have c1 : ws.length = 2 * names.length := by
    have z := V.int.inj (ndec c)
    rw [lw, ln] at z
    omega
  walk_at "go"
  intro r hr
  have er := Evl.Ex.new (o := .lst ([] : List V)) hr
  have hr1 : (upd H1 r (.lst ([] : List V))) r = some (.lst (([] : List Int).map V.int)) := upd_same
  generalize upd H1 r (.lst ([] : List V)) = H2 at er hr1
  have hN2 := Evl.ex_l er hN1
  walk_at "go"
  refine for_range (lo := 0) (n := (names.map (V.str ∘ S)).length) (fun i σ H' => ∃ (ns : List Int) (x4 : Option V), σ = [some (.str (S l)), some (.ref na), some (.ref p), some (.ref r), x4] ∧ Ex H1 H' ∧ H' r = some (.lst (ns.map V.int)) ∧ ns.length = i ∧ rowOf names ws = (rowOf (names.drop i) (ws.drop (2 * i))).map (ns ++ ·)) ⟨[], _, rfl, er, hr1, rfl, by rw [Nat.mul_zero, List.drop_zero, List.drop_zero]; cases rowOf names ws <;> rfl⟩ ?_ ?_
  · rintro i σ H' hi ⟨ns, x4, rfl, ex, hd, hln, inv⟩
    rw [ln] at hi
    have ha : names[i]? = some names[i] := List.getElem?_eq_getElem hi
    have hw : ws[2 * i]? = some ws[2 * i] := List.getElem?_eq_getElem (by omega)
    have hx : ws[2 * i + 1]? = some ws[2 * i + 1] := List.getElem?_eq_getElem (by omega)
    have rd := row_drop ha hw hx
    generalize names[i] = a at ha rd
    have wm := List.mem_of_getElem? hw
    have xm := List.mem_of_getElem? hx
    generalize ws[2 * i] = w at hw rd wm
    generalize ws[2 * i + 1] = x at hx rd xm
    rw [rd] at inv
    have aN : atI (names.map (V.str ∘ S)) (0 + (i : Int)) = some (.str (S a)) := by
      rw [Int.zero_add]
      exact atI_nat (by rw [List.getElem?_map, ha]; rfl)
    have aW : atI (ws.map (V.str ∘ S)) (2 * (0 + (i : Int))) = some (.str (S w)) := by
      rw [show 2 * (0 + (i : Int)) = ((2 * i : Nat) : Int) by omega]
      exact atI_nat (by rw [List.getElem?_map, hw]; rfl)
    have aX : atI (ws.map (V.str ∘ S)) (2 * (0 + (i : Int)) + 1) = some (.str (S x)) := by
      rw [show 2 * (0 + (i : Int)) + 1 = ((2 * i + 1 : Nat) : Int) by omega]
      exact atI_nat (by rw [List.getElem?_map, hx]; rfl)
    have hwL : SqL K H' p (ws.map (V.str ∘ S)) := Evl.ex_l ex hwsL
    have hNL : SqL K H' na (names.map (V.str ∘ S)) := Evl.ex_l ex hN1
    walk_at "go"
    refine iteB (fun c2 => ?_) (fun c2 => ?_)
    · walk_at "go"
      exact qN (by rw [inv, if_neg (fun z => nndec c2 (by rw [z]))]; rfl) H' (e1.trans ex)
    have c3 : w = a := S_inj (V.str.inj (ndec c2))
    rw [if_pos c3] at inv
    walk_at "go"
    refine ⟨Nat.le_trans (siz x xm) hl, ?_⟩
    cases hx2 : numOf x with
    | none =>
      rw [hx2] at inv
      rw [numV_no hx2]
      walk_at "go"
      refine iteTb (decT rfl) ?_
      walk_at "go"
      exact qN (by rw [inv]; rfl) H' (e1.trans ex)
    | some n =>
      rw [hx2] at inv
      rw [numV_is hx2]
      walk_at "go"
      refine ⟨Or.inl ⟨rfl, _, SqL.of hd⟩, ?_⟩
      walk_at "go"
      refine ⟨Nat.le_trans (siz x xm) hl, ?_⟩
      rw [numV_is hx2]
      walk_at "go"
      refine ⟨r, _, _, rfl, rfl, hd, szb (by rw [List.length_map]; omega), ?_⟩
      refine ⟨ns ++ [n], _, rfl, Evl.Ex.mut ex hr, by rw [upd_same, List.map_append]; rfl, by rw [List.length_append, hln]; rfl, ?_⟩
      rw [inv]
      cases rowOf (names.drop (i + 1)) (ws.drop (2 * (i + 1))) with
      | none => rfl
      | some ms => exact congrArg some (show ns ++ (n :: ms) = ns ++ [n] ++ ms by rw [List.append_assoc]; rfl)
  rintro σ H' ⟨ns, x4, rfl, ex, hd, hln, inv⟩
  rw [ln, row_end c1] at inv
  walk_at "go"
  refine q ns ?_ r H' (e1.trans ex) ?_ hd
  · rw [inv]
    show some (ns ++ []) = some ns
    rw [List.append_nil]
  · exact Evl.fresh_back e1 hr
/-! #### _law_due -/
def dueW : Option Flt → Str
  | none => "day"
  | some f => fltW f
/-- what is handed in: None, or a day's list -/
def DueOk (H : Hp) (v : V) (R : Str → Prop) : Prop := (v = .non ∧ R "text") ∨ ∃ (l : Addr) (d : RawD), v = .ref l ∧ H l = some (.lst (rawV (wordOf d.ring) (rawI d.len d.home d.start d.sts))) ∧ Big d ∧ d.sts.length < 4000000 ∧ R (dueW (dayFlt (wordOf d.ring) d.len d.home d.start d.sts))
def sp_law_due (K : PySem.W.Frag) : Sp := fun vs H Q _ => ∃ (v : V), vs = [v] ∧ DueOk H v fun x => Q (.str x) H
theorem off_on (g : Bool) (len p : Int) : (0 ≤ p ∧ p < len + (if wordOf g = "line" then 1 else 0)) ↔ onRoad (decide (wordOf g = "ring")) len p := by
  unfold onRoad placesOf
  cases g with
  | false => rw [if_pos (by decide +kernel), decide_eq_false (by decide +kernel), if_neg (by decide)]
  | true => rw [if_neg (by decide +kernel), decide_eq_true (by decide +kernel), if_pos rfl]; try omega
theorem word_road (g : Bool) : wordOf g = "line" ∨ wordOf g = "ring" := by cases g; exact .inl rfl; exact .inr rfl
set_option maxHeartbeats 4000000 in
theorem ok_law_due (T : Txt K mg D) : FnOk P w K mg base CX0 2 (He.ga K "_law_due") (D "_law_due") ["_law_raw_here"] (sp_law_due K) := by
  refine T.F_law_due.ok sc_law_due (fun vs H Q E h => ?_) (fun cdv A outer s H vs Q E hr h => ?_)
  · obtain ⟨_, rfl, _⟩ := h
    rfl
  obtain ⟨v, rfl, hh⟩ := h
  refine ⟨_, PSs.nox (pss_cons (ps_if (pt_cmpR op_isN1 (pv 0) pe_non (nomark _)) (pss_one (ps_ret pe_str)) pss_nil)
    (pss_cons (ps_if (pt_not (pt_chain op_le op_le pe_int (pe_ix ix_list (pv 0) pe_int (fun _ _ => rfl)) (pe_op op_pow pe_int pe_int))) (pss_one (ps_ret pe_str)) pss_nil)
    (pss_cons (ps_if (pt_val (pe_call (ok_law_off T) hr rfl T.m_law_off T.F_law_off.kp T.b_law_off .nil pass0 (pa_cons (pv 0) (pa_cons (pe_ix ix_list (pv 0) pe_int (fun _ _ => rfl)) pa_nil)))) (pss_one (ps_ret pe_str)) pss_nil)
    (pss_cons (ps_if (pt_cmpR op_gt (pe_ix ix_list (pv 0) pe_int (fun _ _ => rfl)) (pe_op op_pow pe_int pe_int) (nomark _)) (pss_one (ps_ret pe_str)) pss_nil)
    (pss_cons (ps_if (pt_cmpR op_gt (pe_callB call_len_seq rfl T.m_len PySem.boot_len (pa_cons (pv 0) pa_nil)) pe_int (nomark _)) (pss_one (ps_ret pe_str)) pss_nil)
    (pss_cons (ps_for PassesOwn.never rfl (pi_range3 rfl T.m_range (pa_cons pe_int (pa_cons (pe_callB call_len_seq rfl T.m_len PySem.boot_len (pa_cons (pv 0) pa_nil)) (pa_cons pe_int pa_nil)))) (pg_name (i := 1) sc_law_due.nd rfl (Or.inl rfl))
      (pss_cons (ps_if (pt_val (pe_call (ok_law_off T) hr rfl T.m_law_off T.F_law_off.kp T.b_law_off .nil pass0 (pa_cons (pv 0) (pa_cons (pe_ix ix_list (pv 0) (pv 1) (fun _ _ => rfl)) pa_nil)))) (pss_one (ps_ret pe_str)) pss_nil)
      (pss_one (ps_if (PW.pt (pw_or (pt_cmpR op_gt (pe_callB (call_max3Nu rfl) rfl T.m_max (by decide +kernel) (pa_cons (pe_ix ix_list (pv 0) (pe_op op_add (pv 1) pe_int) (fun _ _ => rfl)) (pa_cons (pe_ix ix_list (pv 0) (pe_op op_add (pv 1) pe_int) (fun _ _ => rfl)) (pa_cons (pe_ix ix_list (pv 0) (pe_op op_add (pv 1) pe_int) (fun _ _ => rfl)) pa_nil)))) (pe_op op_pow pe_int pe_int) (nomark _)) (pw_or1 (pt_cmpR op_lt (pe_ix ix_list (pv 0) (pe_op op_add (pv 1) pe_int) (fun _ _ => rfl)) (pe_ix ix_list (pv 0) (pe_op op_add (pv 1) pe_int) (fun _ _ => rfl)) (nomark _))))) (pss_one (ps_ret pe_str)) pss_nil))))
    (pss_one (ps_ret pe_str)))))))), ?_⟩
  rcases hh with ⟨rfl, q⟩ | ⟨l, d, rfl, hL, big, hm, q⟩
  · walk_at "go"
    refine iteTb (decT rfl) ?_
    walk_at "go"
    exact q
  obtain ⟨bl, bh, bs, bst⟩ := big
  generalize hring : d.ring = g at *
  generalize d.len = len at *
  generalize d.home = home at *
  generalize d.start = st0 at *
  generalize d.sts = sts at *
  have hLs : SqL K H l (rawV (wordOf g) (rawI len home st0 sts)) := SqL.of hL
  have a0 : atI (rawV (wordOf g) (rawI len home st0 sts)) 0 = some (.str (wordOf g)) := raw_0
  have a1 : atI (rawV (wordOf g) (rawI len home st0 sts)) 1 = some (.int len) := raw_1
  have a2 : atI (rawV (wordOf g) (rawI len home st0 sts)) 2 = some (.int home) := raw_2
  have a3 : atI (rawV (wordOf g) (rawI len home st0 sts)) 3 = some (.int st0) := raw_3
  have h9 : (10 : Int) ^ (9 : Int).toNat = 1000000000 := by decide +kernel
  have h12 : (10 : Int) ^ (12 : Int).toNat = 1000000000000 := by decide +kernel
  have ret : ∀ f, dayFlt (wordOf g) len home st0 sts = some f → Q (.str (fltW f)) H := fun f e => by
    rw [e] at q
    exact q
  have bad : ¬ isRoad (wordOf g) len → Q (.str "road") H := fun z => ret .road (by unfold dayFlt; rw [if_pos z])
  walk_at "go"
  refine iteB (fun c => ?_) (fun c => ?_)
  case refine_2 =>
    walk_at "go"
    exact bad fun z => odf c z.2.1
  have c1 := odt c
  walk_at "go"
  refine iteB (fun c => ?_) (fun c => ?_)
  · walk_at "go"
    exact bad fun z => nndec c (by rw [h9]; exact z.2.2)
  have c2 := ndec c
  rw [h9] at c2
  have hroad : isRoad (wordOf g) len := ⟨word_road g, c1, c2⟩
  have hon := fun p => off_on g len p
  walk_at "go"
  refine ⟨l, wordOf g, _, home, rfl, hL, len, _, rfl, ?_⟩
  walk_at "go"
  refine iteB (fun c => ?_) (fun c => ?_)
  · walk_at "go"
    refine ret .off ?_
    unfold dayFlt
    rw [if_neg (fun z => z hroad), if_pos (fun z => odt c ((hon home).mpr z))]
  have hhome : onRoad (decide (wordOf g = "ring")) len home := Decidable.byContradiction fun z => odf c fun y => z ((hon home).mp y)
  walk_at "go"
  rw [h12]
  refine iteB (fun c => ?_) (fun c => ?_)
  · have c3 := odt c
    walk_at "go"
    refine ret .time ?_
    unfold dayFlt
    rw [if_neg (fun z => z hroad), if_neg (fun z => z hhome), if_pos (fun z => by have := z.2; omega)]
  have hstart : isTime st0 := ⟨bs, by have := odf c; omega⟩
  have hlen : (rawV (wordOf g) (rawI len home st0 sts)).length = 4 + 4 * sts.length := by rw [rawV_len, rawI_len]; omega
  walk_at "go"
  refine iteB (fun c => ?_) (fun c => ?_)
  · have c4 := odt c
    rw [hlen] at c4
    walk_at "go"
    refine ret .many ?_
    unfold dayFlt
    rw [if_neg (fun z => z hroad), if_neg (fun z => z hhome), if_neg (fun z => z hstart), if_pos (by omega)]
  have h7 : ¬ 7 < sts.length := by have := odf c; rw [hlen] at this; omega
  have rest : dayFlt (wordOf g) len home st0 sts = stopsFlt (decide (wordOf g = "ring")) len sts := by
    unfold dayFlt
    rw [if_neg (fun z => z hroad), if_neg (fun z => z hhome), if_neg (fun z => z hstart), if_neg h7]
  rw [rest] at ret q
  have hlI : (((rawV (wordOf g) (rawI len home st0 sts)).length : Nat) : Int) = 4 + 4 * (sts.length : Int) := by rw [hlen]; omega
  walk_at "go"
  refine ⟨4, _, 4, sts.length, rfl, (by rw [hlI]; exact rg4g hm), for_rangeC (lo := 4) (c := 4) (n := sts.length) (fun i σ H' => (∃ x, σ = [some (.ref l), x]) ∧ H' = H ∧ stopsFlt (decide (wordOf g = "ring")) len sts = stopsFlt (decide (wordOf g = "ring")) len (sts.drop i)) ⟨⟨_, rfl⟩, rfl, rfl⟩ ?_ ?_⟩
  · rintro i σ H' hi ⟨⟨x, rfl⟩, rfl, p⟩
    have hs : sts[i]? = some sts[i] := List.getElem?_eq_getElem hi
    have dr : sts.drop i = sts[i] :: sts.drop (i + 1) := List.drop_eq_getElem_cons hi
    obtain ⟨b0, b1, b2, b3⟩ := raw_at (w := wordOf g) (len := len) (home := home) (start := st0) hs
    have flt : ∀ f, stopFlt (decide (wordOf g = "ring")) len sts[i] = some f → Q (.str (fltW f)) H' := fun f z => ret f (by
      rw [p, dr]
      show (match stopFlt (decide (wordOf g = "ring")) len sts[i] with | some f => some f | none => stopsFlt (decide (wordOf g = "ring")) len (sts.drop (i + 1))) = _
      rw [z])
    obtain ⟨s0, s1, s2, s3⟩ := bst _ (List.mem_of_getElem? hs)
    generalize sts[i] = s at hs dr b0 b1 b2 b3 flt s0 s1 s2 s3
    walk_at "go"
    refine ⟨l, wordOf g, _, s.1, rfl, hL, len, _, rfl, ?_⟩
    walk_at "go"
    refine iteB (fun c => ?_) (fun c => ?_)
    · walk_at "go"
      refine flt .off ?_
      unfold stopFlt
      rw [if_pos (fun z => odt c ((hon s.1).mpr z))]
    have hp : onRoad (decide (wordOf g = "ring")) len s.1 := Decidable.byContradiction fun z => odf c fun y => z ((hon s.1).mp y)
    obtain ⟨mx, hmx, mle⟩ := max3_int s.2.1 s.2.2.1 s.2.2.2
    walk_at "go"
    refine ⟨_, _, _, _, rfl, hmx, ?_⟩
    walk_at "go"
    rw [h12]
    have all := mle 1000000000000
    refine iteB (fun c => ?_) (fun c => ?_)
    · have c3 := odt c
      walk_at "go"
      refine flt .time ?_
      unfold stopFlt
      rw [if_neg (fun y => y hp), if_pos]
      rintro ⟨t1, t2, t3⟩
      have := all.mpr ⟨t1.2, t2.2, t3.2⟩
      omega
    have c3 := odf c
    obtain ⟨m1, m2, m3⟩ := all.mp (by omega)
    have hT : isTime s.2.1 ∧ isTime s.2.2.1 ∧ isTime s.2.2.2 := ⟨⟨s1, m1⟩, ⟨s2, m2⟩, ⟨s3, m3⟩⟩
    walk_at "go"
    refine iteB (fun c => ?_) (fun c => ?_)
    · walk_at "go"
      refine flt .time ?_
      unfold stopFlt
      rw [if_neg (fun y => y hp), if_neg (fun y => y hT), if_pos (odt c)]
    · refine ⟨⟨_, rfl⟩, rfl, ?_⟩
      rw [p, dr]
      show (match stopFlt (decide (wordOf g = "ring")) len s with | some f => some f | none => stopsFlt (decide (wordOf g = "ring")) len (sts.drop (i + 1))) = _
      have e : stopFlt (decide (wordOf g = "ring")) len s = none := by
        unfold stopFlt
        rw [if_neg (fun y => y hp), if_neg (fun y => y hT), if_neg (odf c)]
      rw [e]
  · rintro σ H' ⟨⟨x, rfl⟩, rfl, p⟩
    have e : stopsFlt (decide (wordOf g = "ring")) len sts = none := by
      rw [p, List.drop_length]
      rfl
    rw [e] at q
    walk_at "go"
    exact q
/-! #### check_day -/
def sp_check_day (K : PySem.W.Frag) : Sp := fun vs H Q E => ∃ (r l : Addr) (w : Str) (len home start : Int) (ps : List Addr) (sts : List Stp) (_u : Unit), vs = [.ref r, .int home, .int start, .ref l] ∧ SqT K H r [.str w, .int len] ∧ SqL K H l (ps.map V.ref) ∧ StopsR K H ps sts ∧
  (dayFlt w len home start sts = none → ∀ H', Ex H H' → Q .non H') ∧ (∀ f, dayFlt w len home start sts = some f → ∀ H', Ex H H' → E (.ref (fltC K f)) none H')
set_option maxHeartbeats 4000000 in
theorem ok_check_day (T : Txt K mg D) : FnOk P w K mg base (L2.CX P w) 3 (He.ga K "check_day") (D "check_day") ["road", "home", "start", "stops"] (sp_check_day K) := by
  refine T.F_check_day.ok sc_check_day (fun vs H Q E h => ?_) (fun cdv A outer s H vs Q E hr h => ?_)
  · obtain ⟨_, _, _, _, _, _, _, _, _, rfl, _⟩ := h
    rfl
  obtain ⟨r, l, w', len, home, start, ps, sts, _, rfl, hR, hL, hP, q1, q2⟩ := h
  refine ⟨_, (pss_cons (ps_if (pt_not (pt_val (pe_call (ok_is_road T) (hr.mono (by decide)) rfl T.m_is_road T.F_is_road.kp T.b_is_road .nil pass0 (pa_cons (pv 0) pa_nil)))) (pss_one (ps_raise rfl (takes_of rfl rfl rfl rfl) (pmk_own PySem.F.excBase_ValueError T.x_BadRoad T.m_BadRoad T.kp_BadRoad (raises_own T.sb_BadRoad T.ty_BadRoad) (by exact rfl)))) pss_nil)
    (pss_cons (ps_if (pt_not (pt_val (pe_call (ok_has_place T) (hr.mono (by decide)) rfl T.m_has_place T.F_has_place.kp T.b_has_place .nil pass0 (pa_cons (pv 0) (pa_cons (pv 1) pa_nil))))) (pss_one (ps_raise rfl (takes_of rfl rfl rfl rfl) (pmk_own PySem.F.excBase_ValueError T.x_OffRoad T.m_OffRoad T.kp_OffRoad (raises_own T.sb_OffRoad T.ty_OffRoad) (by exact rfl)))) pss_nil)
    (pss_cons (ps_if (pt_not (pt_val (pe_call (ok_is_time T) (hr.mono (by decide)) rfl T.m_is_time T.F_is_time.kp T.b_is_time .nil pass0 (pa_cons (pv 2) pa_nil)))) (pss_one (ps_raise rfl (takes_of rfl rfl rfl rfl) (pmk_own PySem.F.excBase_ValueError T.x_BadTime T.m_BadTime T.kp_BadTime (raises_own T.sb_BadTime T.ty_BadTime) (by exact rfl)))) pss_nil)
    (pss_cons (ps_if (pt_cmpR op_gt (pe_callB call_len_seq rfl T.m_len PySem.boot_len (pa_cons (pv 3) pa_nil)) (pe_globE rfl T.c_MOST_STOPS) (nomark _)) (pss_one (ps_raise rfl (takes_of rfl rfl rfl rfl) (pmk_own PySem.F.excBase_ValueError T.x_TooMany T.m_TooMany T.kp_TooMany (raises_own T.sb_TooMany T.ty_TooMany) (by exact rfl)))) pss_nil)
    (pss_one (ps_for (passes_of rfl) rfl (pi_list (pv 3)) (pg_name (i := 4) sc_check_day.nd rfl (Or.inl rfl))
      (pss_one (ps_expr (pe_call (ok_check_stop T) hr rfl T.m_check_stop T.F_check_stop.kp T.b_check_stop .nil (passes_call (E := E) (takes_of rfl rfl rfl rfl) (fun _ _ _ _ h => h)) (pa_cons (pv 0) (pa_cons (pv 4) pa_nil))))))))))), ?_⟩
  have fault : ∀ f, dayFlt w' len home start sts = some f → ∀ H', Ex H H' → E (.ref (fltC K f)) none H' := q2
  walk_at "go"
  refine ⟨r, w', len, rfl, hR, fun H1 e1 => ?_⟩
  walk_at "go"
  refine iteB (fun c => ?_) (fun c => ?_)
  · refine fault .road ?_ H1 e1
    unfold dayFlt
    rw [if_pos]
    intro z
    rw [decide_eq_true z] at c
    exact absurd c (by decide)
  have c1 : isRoad w' len := by
    by_cases z : isRoad w' len
    · exact z
    · rw [decide_eq_false z] at c; exact absurd c (by decide)
  obtain ⟨hw, hl⟩ := isRoad_word c1
  have hR1 : SqT K H1 r (roadV (decide (w' = "ring")) len) := by
    have e : roadV (decide (w' = "ring")) len = [V.str w', V.int len] := by unfold roadV; rw [← hw]
    rw [e]
    exact Evl.ex_t e1 hR
  walk_at "go"
  refine ⟨r, _, len, home, rfl, hR1, ?_⟩
  walk_at "go"
  refine iteB (fun c => ?_) (fun c => ?_)
  · refine fault .off ?_ H1 e1
    unfold dayFlt
    rw [if_neg (fun z => z c1), if_pos]
    intro z
    rw [decide_eq_true (show 0 ≤ home ∧ home < placesOf (decide (w' = "ring")) len from z)] at c
    exact absurd c (by decide)
  have c2 : onRoad (decide (w' = "ring")) len home := by
    by_cases z : onRoad (decide (w' = "ring")) len home
    · exact z
    · rw [decide_eq_false (show ¬ (0 ≤ home ∧ home < placesOf (decide (w' = "ring")) len) from z)] at c; exact absurd c (by decide)
  walk_at "go"
  refine iteB (fun c => ?_) (fun c => ?_)
  · refine fault .time ?_ H1 e1
    unfold dayFlt
    rw [if_neg (fun z => z c1), if_neg (fun z => z c2), if_pos]
    intro z
    rw [decide_eq_true z] at c
    exact absurd c (by decide)
  have c3 : isTime start := by
    by_cases z : isTime start
    · exact z
    · rw [decide_eq_false z] at c; exact absurd c (by decide)
  walk_at "go"
  refine ⟨l, _, rfl, Or.inl (Evl.ex_l e1 hL), ?_⟩
  walk_at "go"
  have hlen : (ps.map V.ref).length = sts.length := by rw [List.length_map]; exact hP.len
  refine iteB (fun c => ?_) (fun c => ?_)
  · refine fault .many ?_ H1 e1
    have c' := of_decide_eq_true c
    unfold dayFlt
    rw [if_neg (fun z => z c1), if_neg (fun z => z c2), if_neg (fun z => z c3), if_pos (by omega)]
  have c4 : ¬ 7 < sts.length := by
    have c' := of_decide_eq_false c
    omega
  have rest : dayFlt w' len home start sts = stopsFlt (decide (w' = "ring")) len sts := by
    unfold dayFlt
    rw [if_neg (fun z => z c1), if_neg (fun z => z c2), if_neg (fun z => z c3), if_neg c4]
  rw [rest] at q1 fault
  walk_at "go"
  refine ⟨⟨_, Evl.ex_l e1 hL⟩, for_list (K := K) (a := l) (xs := ps.map V.ref) (fun i σ H' => (∃ x, σ = [some (.ref r), some (.int home), some (.int start), some (.ref l), x]) ∧ H' = H1 ∧ stopsFlt (decide (w' = "ring")) len sts = stopsFlt (decide (w' = "ring")) len (sts.drop i)) ⟨⟨_, rfl⟩, rfl, rfl⟩ (fun i σ H' _ p => by rw [p.2.1]; exact Evl.ex_l e1 hL) ?_ ?_⟩
  · rintro i y σ H' hi ⟨⟨x, rfl⟩, rfl, p⟩
    obtain ⟨a, ha, rfl⟩ := map_ref_get hi
    obtain ⟨st, hst, hS⟩ := (hP.ex e1).get ha
    have dr : sts.drop i = st :: sts.drop (i + 1) := by
      obtain ⟨h1, h2⟩ := List.getElem?_eq_some_iff.mp hst
      rw [List.drop_eq_getElem_cons h1, h2]
    walk_at "go"
    refine ⟨r, a, _, len, st, rfl, hR1, hS, fun z => ?_, fun f z => ?_⟩
    · refine ⟨⟨_, rfl⟩, rfl, ?_⟩
      rw [p, dr]
      show (match stopFlt (decide (w' = "ring")) len st with | some f => some f | none => stopsFlt (decide (w' = "ring")) len (sts.drop (i + 1))) = _
      rw [z]
    · refine fault f ?_ _ e1
      rw [p, dr]
      show (match stopFlt (decide (w' = "ring")) len st with | some f => some f | none => stopsFlt (decide (w' = "ring")) len (sts.drop (i + 1))) = _
      rw [z]
  · rintro σ H' ⟨_, rfl, p⟩
    refine q1 ?_ _ e1
    rw [p, hlen, List.drop_length]
    rfl
/-! #### road_of -/
def sp_road_of (K : PySem.W.Frag) : Sp := fun vs H Q E => ∃ (l : List Nat) (_u : Unit), vs = [.str (S l)] ∧ Asc l ∧ l.length ≤ 8000000 ∧
  (∀ ring len, roadOf l = some (ring, len) → ∀ p H', Ex H H' → H p = none → H' p = some (.tup (roadV ring len)) → Q (.ref p) H') ∧ (roadOf l = none → ∀ H', Ex H H' → E (.ref (He.ga K "NoDay")) none H')
set_option maxHeartbeats 4000000 in
theorem ok_road_of (T : Txt K mg D) : FnOk P w K mg base (L2.CX P w) 3 (He.ga K "road_of") (D "road_of") ["row"] (sp_road_of K) := by
  refine T.F_road_of.ok sc_road_of (fun vs H Q E h => ?_) (fun cdv A outer s H vs Q E hr h => ?_)
  · obtain ⟨_, _, rfl, _⟩ := h
    rfl
  obtain ⟨l, _, rfl, al, hl, q, qE⟩ := h
  refine ⟨_, (pss_cons (ps_set (i := 1) sc_road_of.nd rfl (Or.inl rfl) (pe_ix ix_list (pe_m1 PySem.F.slot_str_split PySem.F.type_str_split mt_split (pv 0) pe_str) pe_int (fun _ _ => rfl)))
    (pss_cons (ps_if (pt_cmpR op_notIn_seq (pv 1) (pe_tup (pa_cons (pe_globE rfl T.c_LINE) (pa_cons (pe_globE rfl T.c_RING) pa_nil))) rfl) (pss_one (ps_raise rfl (takes_of rfl rfl rfl rfl) (pmk_own PySem.F.excBase_ValueError T.x_NoDay T.m_NoDay T.kp_NoDay (raises_own T.sb_NoDay T.ty_NoDay) (by exact rfl)))) pss_nil)
    (pss_one (ps_ret (pe_tup (pa_cons (pv 1) (pa_cons (pe_ix ix_list (pe_call (ok_numbers_of T) hr rfl T.m_numbers_of T.F_numbers_of.kp T.b_numbers_of .nil (passes_call (E := E) (takes_of rfl rfl rfl rfl) (fun _ _ _ _ h => h)) (pa_cons (pv 0) (pa_cons (pe_tup (pa_cons (pv 1) pa_nil)) pa_nil))) pe_int (fun _ _ => rfl)) pa_nil))))))), ?_⟩
  walk_at "go"
  refine ⟨⟨_, rfl⟩, ?_⟩
  walk_at "go"
  obtain ⟨w, rest, ew⟩ := cutAt_cons 32 l
  have many := cutAt_len 32 l
  have wm : w ∈ cutAt 32 l := by rw [ew]; exact List.mem_cons_self ..
  have aw := al.cut wm
  have sw := (cutAt_sub 32 l w wm).2
  refine ⟨szB (by rw [S_len]; omega), fun p hp => ?_⟩
  rw [sp_S, split_cut (by decide), ew]
  have e1 := Evl.Ex.new (o := .lst (((w :: rest).map S).map V.str)) hp
  have h1 : (upd H p (.lst (((w :: rest).map S).map V.str))) p = some (.lst (((w :: rest).map S).map V.str)) := upd_same
  generalize upd H p (.lst (((w :: rest).map S).map V.str)) = H1 at e1 h1
  have a0 : atI (((w :: rest).map S).map V.str) ((0 : Nat) : Int) = some (.str (S w)) := atI_nat rfl
  refine ⟨p, _, _, _, rfl, rfl, SqL.of h1, a0, ?_⟩
  walk_at "go"
  intro p2 hp2
  have e2 := Evl.Ex.new (o := .tup [.str "line", .str "ring"]) hp2
  have h2 : (upd H1 p2 (.tup [.str "line", .str "ring"])) p2 = some (.tup [.str "line", .str "ring"]) := upd_same
  generalize upd H1 p2 (.tup [.str "line", .str "ring"]) = H2 at e2 h2
  walk_at "go"
  rw [in_roads]
  have line : S w = "line" ↔ w = wordL false := ⟨fun z => S_inj (z.trans (S_wordL false).symm), fun z => by rw [z]; exact S_wordL false⟩
  have ring : S w = "ring" ↔ w = wordL true := ⟨fun z => S_inj (z.trans (S_wordL true).symm), fun z => by rw [z]; exact S_wordL true⟩
  refine iteB (fun c => ?_) (fun c => ?_)
  · have c1 := nndec c
    exact qE (roadOf_no ew (fun z => c1 (.inl (line.mpr z))) (fun z => c1 (.inr (ring.mpr z)))) H2 (e1.trans e2)
  have c1 := ndec c
  obtain ⟨g, rfl⟩ : ∃ g, w = wordL g := by
    rcases c1 with z | z
    · exact ⟨false, line.mp z⟩
    · exact ⟨true, ring.mp z⟩
  obtain ⟨r1, r2⟩ := roadOf_at ew
  walk_at "go"
  intro p3 hp3
  have e3 := Evl.Ex.new (o := .tup [.str (S (wordL g))]) hp3
  have h3 : (upd H2 p3 (.tup [.str (S (wordL g))])) p3 = some (.tup [.str (S (wordL g))]) := upd_same
  generalize upd H2 p3 (.tup [.str (S (wordL g))]) = H3 at e3 h3
  have e03 := (e1.trans e2).trans e3
  walk_at "go"
  refine ⟨p3, [wordL g], l, (), rfl, SqT.of h3, .inl rfl, fun a ha => ?_, al, hl, fun ns hns p4 H4 e4 f4 h4 => ?_, fun hns H4 e4 => qE (r1 hns) H4 (e03.trans e4)⟩
  · obtain rfl := List.mem_singleton.mp ha
    exact aw
  obtain ⟨n, rfl, hn⟩ := r2 ns hns
  have a1 : atI [V.int n] ((0 : Nat) : Int) = some (.int n) := atI_nat rfl
  refine ⟨p4, _, _, _, rfl, rfl, SqL.of h4, a1, ?_⟩
  walk_at "go"
  intro p5 hp5
  have e04 := e03.trans e4
  have fin := q g n hn p5 (upd H4 p5 (.tup (roadV g n))) (e04.trans (Evl.Ex.new hp5)) (none_of_ex e04 hp5) upd_same
  unfold roadV at fin
  rw [← S_wordL g] at fin
  exact fin
/-! #### _law_raw -/
theorem atI_last {α : Type} (ys : List α) (y : α) : atI (ys ++ [y]) (-1) = some y := by
  unfold atI ixN
  rw [if_neg (by decide), if_pos (by rw [List.length_append, List.length_singleton]; omega)]
  show (ys ++ [y])[((((ys ++ [y]).length : Nat) : Int) + -1).toNat]? = _
  rw [show ((((ys ++ [y]).length : Nat) : Int) + -1).toNat = ys.length by rw [List.length_append, List.length_singleton]; omega, List.getElem?_append_right (Nat.le_refl _), Nat.sub_self]
  rfl
/-- a text's rows, and what the law asks of the last -/
theorem rows_of (l : List Nat) : (∃ m, l = m ++ [10] ∧ cutAt 10 l = cutAt 10 m ++ [[]] ∧ readOf l = rowsDay (cutAt 10 m)) ∨ (readOf l = none ∧ ((cutAt 10 l).length < 3 ∨ ∃ ps p, cutAt 10 l = ps ++ [p] ∧ p ≠ [])) := by
  rcases split_last l with rfl | ⟨m, x, rfl⟩
  · exact .inr ⟨rfl, .inl (by decide)⟩
  · by_cases h : x = 10
    · subst h
      refine .inl ⟨m, rfl, cutAt_end 10 m, ?_⟩
      unfold readOf
      rw [if_pos (by rw [List.getLast?_append]; rfl), List.dropLast_concat]
    · obtain ⟨ps, p, e⟩ := cutAt_last h m
      refine .inr ⟨?_, .inr ⟨ps, p ++ [x], e, by simp⟩⟩
      unfold readOf
      rw [if_neg (by rw [List.getLast?_append]; exact fun z => h (Option.some.inj z))]
theorem rowsDay_short {rows : List (List Nat)} (h : rows.length < 2) : rowsDay rows = none := by
  match rows, h with
  | [], _ => rfl
  | [_], _ => rfl
  | _ :: _ :: _, h => simp at h; omega
def sp_law_raw (K : PySem.W.Frag) : Sp := fun vs H Q _ => ∃ (l : List Nat) (_u : Unit), vs = [.str (S l)] ∧ l.length ≤ 3000000 ∧
  (readOf l = none → ∀ H', Ex H H' → Q .non H') ∧ ∀ d : RawD, readOf l = some d → ∀ p H', Ex H H' → H p = none → H' p = some (.lst (rawV (wordOf d.ring) (rawI d.len d.home d.start d.sts))) → Q (.ref p) H'
set_option maxHeartbeats 4000000 in
theorem ok_law_raw (T : Txt K mg D) : FnOk P w K mg base CX0 3 (He.ga K "_law_raw") (D "_law_raw") ["_law_text"] (sp_law_raw K) := by
  refine T.F_law_raw.ok sc_law_raw (fun vs H Q E h => ?_) (fun cdv A outer s H vs Q E hr h => ?_)
  · obtain ⟨_, _, rfl, _⟩ := h
    rfl
  obtain ⟨l, _, rfl, hl, qN, q⟩ := h
  refine ⟨_, PSs.nox (pss_cons (ps_set (i := 1) sc_law_raw.nd rfl (Or.inl rfl) (pe_m1 PySem.F.slot_str_split PySem.F.type_str_split mt_split (pv 0) pe_str))
    (pss_cons (ps_if (PW.pt (pw_or (pt_cmpR op_lt (pe_callB call_len_seq rfl T.m_len PySem.boot_len (pa_cons (pv 1) pa_nil)) pe_int (nomark _)) (pw_or1 (pt_cmpR op_ne (pe_ix ix_list (pv 1) (pe_un un_neg pe_int) (fun _ _ => rfl)) pe_str (nomark _))))) (pss_one (ps_ret pe_non)) pss_nil)
    (pss_cons (ps_set (i := 2) sc_law_raw.nd rfl (Or.inl rfl) (pe_lst (pa_cons (pe_slice sl_str (pe_ix ix_list (pv 1) pe_int (fun _ _ => rfl)) po_none (po_some pe_int)) pa_nil)))
    (pss_cons (ps_for PassesOwn.never rfl (pi_range1 rfl T.m_range (pa_cons (pe_op op_sub (pe_callB call_len_seq rfl T.m_len PySem.boot_len (pa_cons (pv 1) pa_nil)) pe_int) pa_nil)) (pg_name (i := 3) sc_law_raw.nd rfl (Or.inl rfl))
      (pss_cons (ps_set (i := 4) sc_law_raw.nd rfl (Or.inl rfl) (pe_lst (pa_cons pe_str (pa_cons pe_str (pa_cons pe_str (pa_cons pe_str pa_nil))))))
      (Evl.pss_cut (ps_if (pt_cmpR op_eq (pv 3) pe_int (nomark _)) (pss_one (ps_set (i := 4) sc_law_raw.nd rfl (Or.inl rfl) (pe_lst (pa_cons (pe_slice sl_str (pe_ix ix_list (pv 1) pe_int (fun _ _ => rfl)) po_none (po_some pe_int)) pa_nil)))) pss_nil)
      (Evl.pss_cut (ps_if (pt_cmpR op_eq (pv 3) pe_int (nomark _)) (pss_one (ps_set (i := 4) sc_law_raw.nd rfl (Or.inl rfl) (pe_lst (pa_cons pe_str (pa_cons pe_str pa_nil))))) pss_nil)
      (pss_cons (ps_set (i := 5) sc_law_raw.nd rfl (Or.inl rfl) (pe_call (ok_law_read_row T) hr rfl T.m_law_read_row T.F_law_read_row.kp T.b_law_read_row .nil pass0 (pa_cons (pe_ix ix_list (pv 1) (pv 3) (fun _ _ => rfl)) (pa_cons (pv 4) pa_nil))))
      (pss_cons (ps_if (pt_cmpR op_isN1 (pv 5) pe_non (nomark _)) (pss_one (ps_ret pe_non)) pss_nil)
      (pss_one (ps_set (i := 2) sc_law_raw.nd rfl (Or.inl rfl) (pe_op op_cat (pv 2) (pv 5))))))))))
    (pss_cons (ps_if (PW.pt (pw_and (pt_cmpR op_ne (pe_ix ix_list (pv 2) pe_int (fun _ _ => rfl)) pe_str (nomark _)) (pw_and1 (pt_cmpR op_ne (pe_ix ix_list (pv 2) pe_int (fun _ _ => rfl)) pe_str (nomark _))))) (pss_one (ps_ret pe_non)) pss_nil)
    (pss_one (ps_ret (pv 2)))))))), ?_⟩
  walk_at "go"
  refine ⟨⟨_, rfl⟩, ?_⟩
  walk_at "go"
  have rl := rows_of l
  have siz := fun w (hw : w ∈ cutAt 10 l) => (cutAt_sub 10 l w hw).2
  have many := cutAt_len 10 l
  refine ⟨szB (by rw [S_len]; omega), fun p hp => ?_⟩
  rw [ln_S, split_cut (by decide), List.map_map]
  generalize cutAt 10 l = ws at rl siz many
  have e1 := Evl.Ex.new (o := .lst (ws.map (V.str ∘ S))) hp
  have h1 : (upd H p (.lst (ws.map (V.str ∘ S)))) p = some (.lst (ws.map (V.str ∘ S))) := upd_same
  generalize upd H p (.lst (ws.map (V.str ∘ S))) = H1 at e1 h1
  have lw : (ws.map (V.str ∘ S)).length = ws.length := List.length_map _
  have hwsL : SqL K H1 p (ws.map (V.str ∘ S)) := SqL.of h1
  walk_at "go"
  refine iteB (fun c => ?_) (fun c => ?_)
  · have c1 := odt c
    rw [lw] at c1
    walk_at "go"
    refine qN ?_ H1 e1
    rcases rl with ⟨m, _, e, er⟩ | ⟨er, _⟩
    · rw [er]
      rw [e, List.length_append, List.length_singleton] at c1
      exact rowsDay_short (by omega)
    · exact er
  have c1 := odf c
  rw [lw] at c1
  walk_at "go"
  obtain ⟨ps, la, rfl⟩ : ∃ ps la, ws = ps ++ [la] := by
    rcases split_last ws with rfl | z
    · exact absurd (show (((0 : Nat) : Int)) < 3 by decide) c1
    · exact z
  rw [List.length_append, List.length_singleton] at c1 many
  have atL : atI ((ps ++ [la]).map (V.str ∘ S)) (-1) = some (.str (S la)) := by
    rw [List.map_append]
    exact atI_last _ _
  refine ⟨p, _, _, _, rfl, rfl, hwsL, atL, ?_⟩
  walk_at "go"
  refine iteB (fun c => ?_) (fun c => ?_)
  · have c2 := nndec c
    walk_at "go"
    refine qN ?_ H1 e1
    rcases rl with ⟨m, _, e, _⟩ | ⟨er, _⟩
    · have z := (List.append_inj' e rfl).2
      exact absurd (by rw [(List.cons.inj z).1]; rfl) c2
    · exact er
  have c2 : la = [] := S_inj (V.str.inj (ndec c))
  have rd : readOf l = rowsDay ps := by
    rcases rl with ⟨m, _, e, er⟩ | ⟨_, h | ⟨qs, x, e, h⟩⟩
    · rw [er, (List.append_inj' e rfl).1]
    · rw [List.length_append, List.length_singleton] at h; omega
    · exact absurd ((List.cons.inj (List.append_inj' e rfl).2).1.symm.trans c2) h
  clear rl
  subst c2
  rw [rd] at qN q
  obtain ⟨r0, r1, rs, rfl⟩ : ∃ r0 r1 rs, ps = r0 :: r1 :: rs := by
    match ps, c1 with
    | [], c1 => exact absurd (show (((0 + 1 : Nat)) : Int) < 3 by decide) c1
    | [_], c1 => exact absurd (show (((1 + 1 : Nat)) : Int) < 3 by decide) c1
    | a :: b :: r, _ => exact ⟨a, b, r, rfl⟩
  have at0 : atI (((r0 :: r1 :: rs) ++ [[]]).map (V.str ∘ S)) ((0 : Nat) : Int) = some (.str (S r0)) := atI_nat rfl
  walk_at "go"
  have mem0 : ∀ r ∈ r0 :: r1 :: rs, r ∈ (r0 :: r1 :: rs) ++ [[]] := fun r hr => List.mem_append_left _ hr
  refine ⟨szB (by rw [S_len]; exact Nat.le_trans (siz r0 (mem0 r0 (by simp))) (by omega)), ?_⟩
  rw [show cutS (S r0) none (some (4 : Int)) = S (r0.take 4) from cutS_up r0 4]
  generalize hw4 : r0.take 4 = w4
  have l4 : w4.length ≤ 4 := by rw [← hw4, List.length_take]; omega
  walk_at "go"
  intro ra hra
  have er := Evl.Ex.new (o := .lst (rawV (S w4) [])) hra
  have hr2 : (upd H1 ra (.lst (rawV (S w4) []))) ra = some (.lst (rawV (S w4) [])) := upd_same
  have same : HO.lst [V.str (S w4)] = HO.lst (rawV (S w4) []) := rfl
  rw [same]
  generalize upd H1 ra (.lst (rawV (S w4) [])) = H2 at er hr2
  have hws2 := Evl.ex_l er hwsL
  have lrows : ((r0 :: r1 :: rs) ++ [[]]).length = (r0 :: r1 :: rs).length + 1 := by rw [List.length_append, List.length_singleton]
  have fra : H ra = none := Evl.fresh_back e1 hra
  have big : (r0 :: r1 :: rs).length ≤ 3000001 := by omega
  generalize hrows : r0 :: r1 :: rs = rows at *
  walk_at "go"
  have nr : (((((rows ++ [[]]).map (V.str ∘ S)).length : Nat) : Int) - 1).toNat = rows.length := by rw [lw, lrows]; omega
  refine for_range (lo := 0) (n := (((((rows ++ [[]]).map (V.str ∘ S)).length : Nat) : Int) - 1).toNat) (fun i σ H' => ∃ (is : List Int) (rb : Addr) (x3 x4 x5 : Option V), σ = [some (.str (S l)), some (.ref p), some (.ref rb), x3, x4, x5] ∧ Ex H1 H' ∧ H rb = none ∧ H' rb = some (.lst (rawV (S w4) is)) ∧ goRows w4 0 (rows.take i) = some is ∧ is.length ≤ 4 * i) ⟨[], ra, _, _, _, rfl, er, fra, hr2, rfl, Nat.le_refl _⟩ ?_ ?_
  · rintro i σ H' hi ⟨is, rb, x3, x4, x5, rfl, ex, frb, hrb, hgo, lis⟩
    rw [nr] at hi
    have hrow : rows[i]? = some rows[i] := List.getElem?_eq_getElem hi
    obtain ⟨g1, g2⟩ := go_at (w4 := w4) hrow
    generalize rows[i] = row at hrow g1 g2
    have mrow : row ∈ rows ++ [[]] := List.mem_append_left _ (List.mem_of_getElem? hrow)
    have ati : atI ((rows ++ [[]]).map (V.str ∘ S)) (0 + (i : Int)) = some (.str (S row)) := by
      rw [Int.zero_add]
      exact atI_nat (by rw [List.getElem?_map, List.getElem?_append_left hi, hrow]; rfl)
    have hws' := Evl.ex_l ex hwsL
    walk_at "go"
    intro na hna
    have en := Evl.Ex.new (o := .lst (stopNames.map (V.str ∘ S))) hna
    have hn1 : (upd H' na (.lst (stopNames.map (V.str ∘ S)))) na = some (.lst (stopNames.map (V.str ∘ S))) := upd_same
    have sameN : HO.lst [V.str (Str.ofString "stop"), V.str (Str.ofString "from"), V.str (Str.ofString "to"), V.str (Str.ofString "for")] = HO.lst (stopNames.map (V.str ∘ S)) := congrArg HO.lst words_stop
    rw [sameN]
    generalize upd H' na (.lst (stopNames.map (V.str ∘ S))) = H3 at en hn1
    walk_at "go"
    refine ⟨fun σ' H4 => ∃ nb, σ' = [some (.str (S l)), some (.ref p), some (.ref rb), some (.int (0 + (i : Int))), some (.ref nb), x5] ∧ Ex H' H4 ∧ H4 nb = some (.lst ((if i = 0 then [w4] else stopNames).map (V.str ∘ S))), ?_, ?_⟩
    · walk_at "go"
      refine iteB (fun c => ?_) (fun c => ?_)
      · have i0 : i = 0 := by have z := V.int.inj (odt c); omega
        have hws3 := Evl.ex_l en hws'
        walk_at "go"
        refine ⟨szB (by rw [S_len]; exact Nat.le_trans (siz r0 (mem0 r0 (by rw [← hrows]; simp))) (by omega)), ?_⟩
        rw [show cutS (S r0) none (some (4 : Int)) = S (r0.take 4) from cutS_up r0 4, hw4]
        walk_at "go"
        intro nb hnb
        exact ⟨nb, rfl, en.trans (Evl.Ex.new hnb), by rw [upd_same, if_pos i0]; rfl⟩
      · have i0 : i ≠ 0 := fun z => odf c (by rw [z]; rfl)
        exact ⟨na, rfl, en, by rw [if_neg i0]; exact hn1⟩
    rintro σ' H4 ⟨nb, rfl, e4, hnb⟩
    walk_at "go"
    refine ⟨fun σ' H5 => ∃ nc, σ' = [some (.str (S l)), some (.ref p), some (.ref rb), some (.int (0 + (i : Int))), some (.ref nc), x5] ∧ Ex H' H5 ∧ H5 nc = some (.lst ((namesAt w4 i).map (V.str ∘ S))), ?_, ?_⟩
    · walk_at "go"
      refine iteB (fun c => ?_) (fun c => ?_)
      · have i1 : i = 1 := by have z := V.int.inj (odt c); omega
        walk_at "go"
        intro nc hnc
        exact ⟨nc, rfl, e4.trans (Evl.Ex.new hnc), by rw [upd_same, i1]; exact congrArg (fun z => some (HO.lst z)) words_home⟩
      · have i1 : i ≠ 1 := fun z => odf c (by rw [z]; rfl)
        refine ⟨nb, rfl, e4, ?_⟩
        rw [hnb]
        match i, i1 with
        | 0, _ => rfl
        | k + 2, _ => rfl
    rintro σ' H5 ⟨nc, rfl, e5, hnc⟩
    have hws5 := Evl.ex_l e5 hws'
    have ex5 := ex.trans e5
    have hrb5 := e5 _ _ hrb
    have l4n : (namesAt w4 i).length ≤ 4 := by
      match i with
      | 0 => show 1 ≤ 4; decide
      | 1 => show 2 ≤ 4; decide
      | k + 2 => show 4 ≤ 4; decide
    walk_at "go"
    refine ⟨nc, namesAt w4 i, row, (), rfl, SqL.of hnc, l4n, Nat.le_trans (siz row mrow) (by omega), fun hno H6 e6 => ?_, fun ns hns p6 H6 e6 f6 h6 => ?_⟩
    · walk_at "go"
      refine qN ?_ H6 (e1.trans (ex5.trans e6))
      have z := g1 hno
      cases y : rowsDay rows with
      | none => rfl
      | some d =>
        obtain ⟨a, b, r, ea, _, eg⟩ := go_some y
        have ea0 : a = r0 := (List.cons.inj (ea.symm.trans hrows.symm)).1
        rw [ea0, hw4, z] at eg
        cases eg
    · walk_at "go"
      have lns := (rowOf_len hns).1
      refine ⟨rb, p6, _, _, rfl, rfl, e6 _ _ hrb5, h6, szB (by rw [rawV_len, List.length_map]; omega), fun q6 hq6 => ?_⟩
      have sum : HO.lst (rawV (S w4) is ++ ns.map V.int) = HO.lst (rawV (S w4) (is ++ ns)) := by unfold rawV; rw [List.map_append]; rfl
      rw [sum]
      refine ⟨is ++ ns, q6, _, _, _, rfl, (ex5.trans e6).trans (Evl.Ex.new hq6), ?_, upd_same, g2 is ns hgo hns, by rw [List.length_append]; omega⟩
      exact Evl.fresh_back (e1.trans (ex5.trans e6)) hq6
  rintro σ H' ⟨is, rb, x3, x4, x5, rfl, ex, frb, hrb, hgo, lis⟩
  rw [nr, List.take_length] at hgo
  have hrs : SqL K H' rb (rawV (S w4) is) := SqL.of hrb
  have a0 : atI (rawV (S w4) is) 0 = some (.str (S w4)) := raw_0
  walk_at "go"
  have line : S w4 = "line" ↔ w4 = wordL false := ⟨fun z => S_inj (z.trans (S_wordL false).symm), fun z => by rw [z]; exact S_wordL false⟩
  have ring : S w4 = "ring" ↔ w4 = wordL true := ⟨fun z => S_inj (z.trans (S_wordL true).symm), fun z => by rw [z]; exact S_wordL true⟩
  have e0 := e1.trans ex
  have give : ∀ g : Bool, w4 = wordL g → Q (.ref rb) H' := fun g hg => by
    have hgo' := hgo
    rw [← hrows, ← hw4] at hgo'
    obtain ⟨d, d1, d2, d3⟩ := go_back hgo' (hw4.trans hg)
    rw [hrows] at d1
    refine q d d1 rb H' e0 frb ?_
    rw [hrb, d2, ← d3, ← S_wordL g, hg]
  refine iteB (fun c => ?_) (fun c => ?_)
  · have n1 := nndec c
    walk_at "go"
    refine iteB (fun c => ?_) (fun c => ?_)
    · have n2 := nndec c
      walk_at "go"
      refine qN ?_ H' e0
      cases y : rowsDay rows with
      | none => rfl
      | some d =>
        obtain ⟨a, b, r, ea, ew, _⟩ := go_some y
        have ea0 : a = r0 := (List.cons.inj (ea.symm.trans hrows.symm)).1
        rw [ea0, hw4] at ew
        cases hg : d.ring with
        | false => exact absurd (congrArg V.str (line.mpr (by rw [ew, hg]))) n1
        | true => exact absurd (congrArg V.str (ring.mpr (by rw [ew, hg]))) n2
    · walk_at "go"
      exact give true (ring.mp (V.str.inj (ndec c)))
  · walk_at "go"
    exact give false (line.mp (V.str.inj (ndec c)))
/-! #### Day.__init__ -/
def sp_Day___init (K : PySem.W.Frag) : Sp := fun vs H Q E => ∃ (p dx r l : Addr) (w : Str) (len home start : Int) (ps : List Addr) (sts : List Stp) (_u : Unit), vs = [.ref p, .ref r, .int home, .int start, .ref l] ∧ H p = some (.ins (He.ga K "Day") dx []) ∧ SqT K H r [.str w, .int len] ∧ SqL K H l (ps.map V.ref) ∧ StopsR K H ps sts ∧
  (dayFlt w len home start sts = none → ∀ l' H', (∀ b o, b ≠ p → H b = some o → H' b = some o) → H l' = none → H' p = some (.ins (He.ga K "Day") dx (dayFs r l' home start)) → H' l' = some (.lst (ps.map V.ref)) → Q .non H') ∧
  (∀ f, dayFlt w len home start sts = some f → ∀ H', Ex H H' → E (.ref (fltC K f)) none H')
set_option maxHeartbeats 4000000 in
theorem ok_Day___init (T : Txt K mg D) : FnOk P w K mg base (L2.CX P w) 4 (He.ma K (He.ga K "Day") "__init__") (D "Day.__init__") ["self", "road", "home", "start", "stops"] (sp_Day___init K) := by
  refine T.F_Day___init.ok sc_Day___init (fun vs H Q E h => ?_) (fun cdv A outer s H vs Q E hr h => ?_)
  · obtain ⟨_, _, _, _, _, _, _, _, _, _, _, rfl, _⟩ := h
    rfl
  obtain ⟨p, dx, r, l, w', len, home, start, ps, sts, _, rfl, hp, hR, hL, hP, q1, q2⟩ := h
  refine ⟨_, (pss_cons (ps_expr (pe_call (ok_check_day T) hr rfl T.m_check_day T.F_check_day.kp T.b_check_day .nil (passes_call (E := E) (takes_of rfl rfl rfl rfl) (fun _ _ _ _ h => h)) (pa_cons (pv 1) (pa_cons (pv 2) (pa_cons (pv 3) (pa_cons (pv 4) pa_nil))))))
    (pss_cons (ps_fld (pv 0) (pv 1) rfl)
    (pss_cons (ps_fld (pv 0) (pv 2) rfl)
    (pss_cons (ps_fld (pv 0) (pv 3) rfl)
    (pss_one (ps_fld (pv 0) (pe_callTy call_list_of rfl T.m_list (by decide +kernel) (pa_cons (pv 4) pa_nil)) rfl)))))), ?_⟩
  walk_at "go"
  refine ⟨r, l, w', len, home, start, ps, sts, (), rfl, hR, hL, hP, fun z H1 e1 => ?_, q2⟩
  walk_at "go"
  refine ⟨p, _, dx, _, rfl, e1 _ _ hp, T.cl_Day, T.na_Day_road, (by decide), ?_⟩
  walk_at "go"
  refine ⟨p, _, dx, _, rfl, upd_same, T.cl_Day, T.na_Day_home, (by show 1 < 1000; decide), ?_⟩
  walk_at "go"
  refine ⟨p, _, dx, _, rfl, upd_same, T.cl_Day, T.na_Day_start, (by show 2 < 1000; decide), ?_⟩
  walk_at "go"
  refine ⟨l, _, rfl, Or.inl (SqL.at_ins upd_same (SqL.at_ins upd_same (SqL.at_ins (e1 _ _ hp) (Evl.ex_l e1 hL)))), fun l' hl' => ?_⟩
  walk_at "go"
  have nep : p ≠ l' := fun e => by rw [e, upd_same] at hl'; cases hl'
  refine ⟨p, _, dx, _, rfl, (by rw [upd_ne nep]; exact upd_same), T.cl_Day, T.na_Day_stops, (by show 3 < 1000; decide), ?_⟩
  have fr : H l' = none := by
    have h1 : H1 l' = none := by
      have h2 := hl'
      rw [upd_ne (Ne.symm nep), upd_ne (Ne.symm nep), upd_ne (Ne.symm nep)] at h2
      exact h2
    exact Evl.fresh_back e1 h1
  refine q1 z l' _ (fun b o hb ho => ?_) fr upd_same ?_
  · have hbl : b ≠ l' := fun e => by rw [e, fr] at ho; cases ho
    rw [upd_ne hb, upd_ne hbl, upd_ne hb, upd_ne hb, upd_ne hb]
    exact e1 _ _ ho
  · rw [upd_ne (Ne.symm nep)]
    exact upd_same
/-! #### read -/
def sp_read (K : PySem.W.Frag) : Sp := fun vs H Q E => ∃ (l : List Nat), vs = [.str (S l)] ∧ Asc l ∧ l.length ≤ 4000000 ∧ (readOf l = none → ∀ H', Ex H H' → E (.ref (He.ga K "NoDay")) none H') ∧ ∀ d : RawD, readOf l = some d →
  (dayFlt (wordOf d.ring) d.len d.home d.start d.sts = none → ∀ a r sl ps H', Ex H H' → H a = none → H sl = none → DayAt K H' a r sl (wordOf d.ring) d.len d.home d.start ps d.sts → Q (.ref a) H') ∧ (∀ f, dayFlt (wordOf d.ring) d.len d.home d.start d.sts = some f → ∀ H', Ex H H' → E (.ref (fltC K f)) none H')
set_option maxHeartbeats 4000000 in
theorem ok_read (T : Txt K mg D) : FnOk P w K mg base (L2.CX P w) 6 (He.ga K "read") (D "read") ["text"] (sp_read K) := by
  refine T.F_read.ok sc_read (fun vs H Q E h => ?_) (fun cdv A outer s H vs Q E hr h => ?_)
  · obtain ⟨_, rfl, _⟩ := h
    rfl
  obtain ⟨l, rfl, al, hl, qN, qD⟩ := h
  refine ⟨_, (pss_cons (ps_if (pt_not (pt_val (pe_m1 PySem.F.slot_str_endswith PySem.F.type_str_endswith mt_endswith (pv 0) pe_str))) (pss_one (ps_raise rfl (takes_of rfl rfl rfl rfl) (pmk_own PySem.F.excBase_ValueError T.x_NoDay T.m_NoDay T.kp_NoDay (raises_own T.sb_NoDay T.ty_NoDay) (by exact rfl)))) pss_nil)
    (pss_cons (ps_set (i := 1) sc_read.nd rfl (Or.inl rfl) (pe_m1 PySem.F.slot_str_split PySem.F.type_str_split mt_split (pe_slice sl_str (pv 0) po_none (po_some (pe_un un_neg pe_int))) pe_str))
    (pss_cons (ps_if (pt_cmpR op_lt (pe_callB call_len_seq rfl T.m_len PySem.boot_len (pa_cons (pv 1) pa_nil)) pe_int (nomark _)) (pss_one (ps_raise rfl (takes_of rfl rfl rfl rfl) (pmk_own PySem.F.excBase_ValueError T.x_NoDay T.m_NoDay T.kp_NoDay (raises_own T.sb_NoDay T.ty_NoDay) (by exact rfl)))) pss_nil)
    (pss_cons (ps_set (i := 2) sc_read.nd rfl (Or.inl rfl) (pe_call (ok_road_of T) (hr.mono (by decide)) rfl T.m_road_of T.F_road_of.kp T.b_road_of .nil (passes_call (E := E) (takes_of rfl rfl rfl rfl) (fun _ _ _ _ h => h)) (pa_cons (pe_ix ix_list (pv 1) pe_int (fun _ _ => rfl)) pa_nil)))
    (pss_cons (ps_asg (pe_call (ok_numbers_of T) (hr.mono (by decide)) rfl T.m_numbers_of T.F_numbers_of.kp T.b_numbers_of .nil (passes_call (E := E) (takes_of rfl rfl rfl rfl) (fun _ _ _ _ h => h)) (pa_cons (pe_ix ix_list (pv 1) pe_int (fun _ _ => rfl)) (pa_cons (pe_glob (v := V.ref (He.ga K "HOME_WORDS")) rfl T.m_HOME_WORDS rfl) pa_nil))) (pg_unl rfl (pgs_cons (pg_name (i := 3) sc_read.nd rfl (Or.inl rfl)) (pgs_cons (pg_name (i := 4) sc_read.nd rfl (Or.inl rfl)) pgs_nil))))
    (pss_cons (ps_setLcX (i := 5) (E0 := E) (own := [("row", 6)]) (g := gName 6) (tt := tYes) rfl rfl (takes_of rfl rfl rfl rfl) rfl sc_read.nd rfl rfl (sw_true rfl rfl rfl (by decide +kernel)) (pi_list (pe_slice sl_list (pv 1) (po_some pe_int) po_none)) (blkOk_by (own := [("row", 6)]) (N := N_read) (sc := defScope s_read) (by decide +kernel)) (fun _ _ _ _ _ => pg_name (i := 6) sc_read.nd rfl (Or.inl rfl)) (fun _ _ _ _ _ => pts_nil) (fun _ _ _ _ _ px => (by refine' pe_eq (t' := ?tt2) (pe_callTy call_tuple_of rfl T.m_tuple (by decide +kernel) (pa_cons (pe_call (ok_numbers_of T) (hr.mono (by decide)) rfl T.m_numbers_of T.F_numbers_of.kp T.b_numbers_of .nil px (pa_cons (pv 6) (pa_cons (pe_glob (v := V.ref (He.ga K "STOP_WORDS")) rfl T.m_STOP_WORDS rfl) pa_nil))) pa_nil)) ?qq2; case qq2 => (first | (dsimp only [blkX, L2.Cx.blk]; done) | (dsimp only [blkX, L2.Cx.blk]; rfl) | rfl))))
    (pss_one (ps_ret (pe_make T.k_Day (ok_Day___init T) hr rfl T.m_Day T.b_Day___init .nil (passes_call (E := E) (takes_of rfl rfl rfl rfl) (fun _ _ _ _ h => h)) (pa_cons (pv 2) (pa_cons (pv 3) (pa_cons (pv 4) (pa_cons (pv 5) pa_nil))))))))))))), ?_⟩
  walk_at "go"
  refine ⟨⟨_, rfl⟩, ?_⟩
  walk_at "go"
  rw [ends_ln]
  refine iteB (fun c => ?_) (fun c => ?_)
  · exact qN (by unfold readOf; exact if_neg (nndec c)) H (fun _ _ z => z)
  have c1 := ndec c
  have rd : readOf l = rowsDay (cutAt 10 l.dropLast) := by unfold readOf; exact if_pos c1
  rw [rd] at qN qD
  walk_at "go"
  refine ⟨szB (by rw [S_len]; omega), ⟨_, rfl⟩, ?_⟩
  rw [cut_last]
  have ad : Asc l.dropLast := al.sub fun z hz => List.dropLast_subset l hz
  have ld : l.dropLast.length ≤ l.length := by rw [List.length_dropLast]; omega
  walk_at "go"
  have asc := fun w (hw : w ∈ cutAt 10 l.dropLast) => ad.cut hw
  have siz := fun w (hw : w ∈ cutAt 10 l.dropLast) => (cutAt_sub 10 l.dropLast w hw).2
  have many := cutAt_len 10 l.dropLast
  refine ⟨szB (by rw [S_len]; omega), fun p hp => ?_⟩
  rw [ln_S, split_cut (by decide), List.map_map]
  generalize hws : cutAt 10 l.dropLast = ws at qN qD asc siz many
  have e1 := Evl.Ex.new (o := .lst (ws.map (V.str ∘ S))) hp
  have h1 : (upd H p (.lst (ws.map (V.str ∘ S)))) p = some (.lst (ws.map (V.str ∘ S))) := upd_same
  generalize upd H p (.lst (ws.map (V.str ∘ S))) = H1 at e1 h1
  have lw : (ws.map (V.str ∘ S)).length = ws.length := List.length_map _
  have h1s : SqL K H1 p (ws.map (V.str ∘ S)) := SqL.of h1
  walk_at "go"
  refine iteB (fun c => ?_) (fun c => ?_)
  · have c2 := odt c
    rw [lw] at c2
    refine qN ?_ H1 e1
    match ws, c2 with
    | [], _ => rfl
    | [_], _ => rfl
    | _ :: _ :: _, c2 => exact absurd c2 (by simp only [List.length_cons]; omega)
  have c2 := odf c
  rw [lw] at c2
  obtain ⟨r0, r1, rs, rfl⟩ : ∃ r0 r1 rs, ws = r0 :: r1 :: rs := by
    match ws, c2 with
    | [], c2 => exact absurd (show ((0 : Nat) : Int) < 2 by decide) c2
    | [_], c2 => exact absurd (show ((1 : Nat) : Int) < 2 by decide) c2
    | a :: b :: r, _ => exact ⟨a, b, r, rfl⟩
  obtain ⟨d1, d2, d3, d4⟩ := rowsDay_is (r0 := r0) (r1 := r1) (rs := rs)
  have m0 : r0 ∈ r0 :: r1 :: rs := by simp
  have m1 : r1 ∈ r0 :: r1 :: rs := by simp
  have a0 : atI ((r0 :: r1 :: rs).map (V.str ∘ S)) ((0 : Nat) : Int) = some (.str (S r0)) := atI_nat rfl
  have a1 : atI ((r0 :: r1 :: rs).map (V.str ∘ S)) ((1 : Nat) : Int) = some (.str (S r1)) := atI_nat rfl
  walk_at "go"
  refine ⟨r0, (), rfl, asc r0 m0, Nat.le_trans (siz r0 m0) (by omega), fun g len hr rt H2 e12 frt hrt => ?_, fun hr H2 e12 => qN (d1 hr) H2 (e1.trans e12)⟩
  have h2s := Evl.ex_l e12 h1s
  have e02 := e1.trans e12
  walk_at "go"
  refine ⟨He.ga K "HOME_WORDS", homeNames, r1, (), rfl, by have z := (T.t_HOME_WORDS).sq (H := H2); rw [words_home] at z; exact z, .inr (.inl rfl), by unfold Asc; decide, asc r1 m1, Nat.le_trans (siz r1 m1) (by omega), fun ns hns p2 H3 e23 fp2 hp2 => ?_, fun hns H3 e23 => qN (d2 (homeOf_is.1 hns)) H3 (e02.trans e23)⟩
  obtain ⟨home, st0, rfl, hh⟩ := homeOf_is.2 ns hns
  have e13 := e12.trans e23
  have e03 := e1.trans e13
  have h3s := Evl.ex_l e13 h1s
  walk_at "go"
  intro p3 hp3
  have ecut : cutV ((r0 :: r1 :: rs).map (V.str ∘ S)) (some (2 : Int)) none = rs.map (V.str ∘ S) := cut_from (xs := (r0 :: r1 :: rs).map (V.str ∘ S)) (k := 2) (by rw [lw]; simp)
  rw [ecut]
  have e34 := Evl.Ex.new (o := .lst (rs.map (V.str ∘ S))) hp3
  have h4 : (upd H3 p3 (.lst (rs.map (V.str ∘ S)))) p3 = some (.lst (rs.map (V.str ∘ S))) := upd_same
  generalize upd H3 p3 (.lst (rs.map (V.str ∘ S))) = H4 at e34 h4
  have e04 := e03.trans e34
  have lst : (rs.map (V.str ∘ S)).length = rs.length := List.length_map _
  have lrs : rs.length ≤ 4000000 := by rw [List.length_cons, List.length_cons] at many; omega
  walk_at "go"
  refine ⟨⟨_, SqL.of h4⟩, fun D hDn => lc_list (K := K) (a := p3) (xs := rs.map (V.str ∘ S)) (fun i H' => ∃ sts qs, Ex H4 H' ∧ stopsOf (rs.take i) = some sts ∧ H' D = some (.lst (qs.map V.ref)) ∧ StopsR K H' qs sts ∧ sts.length = i) ⟨[], [], Evl.Ex.new hDn, rfl, upd_same, .nil, rfl⟩ (fun i H' _ z => ?_) ?_ ?_⟩
  · obtain ⟨_, _, ex, _⟩ := z
    exact Evl.ex_l ex (SqL.of h4)
  · rintro i y H' hi ⟨sts, qs, ex, hst, hd, hq, hln⟩
    rw [List.getElem?_map] at hi
    cases hn : rs[i]? with
    | none => rw [hn] at hi; cases hi
    | some w =>
      rw [hn] at hi
      obtain rfl := Option.some.inj hi
      have wm : w ∈ r0 :: r1 :: rs := List.mem_cons_of_mem _ (List.mem_cons_of_mem _ (List.mem_of_getElem? hn))
      have il : i < rs.length := (List.getElem?_eq_some_iff.mp hn).1
      have tk : rs.take (i + 1) = rs.take i ++ [w] := by rw [List.take_succ, hn]; rfl
      have sp : rs = rs.take i ++ w :: rs.drop (i + 1) := by
        have z := List.take_append_drop i rs
        rw [List.drop_eq_getElem_cons il, (List.getElem?_eq_some_iff.mp hn).2] at z
        exact z.symm
      have lq : qs.length = i := by rw [hq.len, hln]
      walk_at "go"
      refine ⟨He.ga K "STOP_WORDS", stopNames, w, (), rfl, by have z := (T.t_STOP_WORDS).sq (H := H'); rw [words_stop] at z; exact z, .inr (.inr rfl), by unfold Asc; decide, asc w wm, Nat.le_trans (siz w wm) (by omega), fun ns hns p5 H5 e5 fp5 hp5 => ?_, fun hns H5 e5 => ?_⟩
      · obtain ⟨t, rfl, ht⟩ := stopOf_is.2 ns hns
        walk_at "go"
        refine ⟨_, _, rfl, Or.inl ⟨SqL.of hp5, fun p6 hp6 => ?_⟩⟩
        have e56 := Evl.Ex.new (o := .tup (stopV t)) hp6
        have h6 : (upd H5 p6 (.tup (stopV t))) p6 = some (.tup (stopV t)) := upd_same
        have ey := e5.trans e56
        refine ⟨_, ey _ _ hd, szb (by rw [List.length_map]; omega), sts ++ [t], qs ++ [p6], Evl.Ex.mut (ex.trans ey) hDn, ?_, ?_, StopsR.at_lst (ey _ _ hd) (StopsR.snoc (SqT.of h6) (hq.ex ey)), ?_⟩
        · rw [tk]; exact stopsOf_snoc hst ht
        · rw [upd_same, List.map_append]; rfl
        · rw [List.length_append, hln]; rfl
      · refine qN (d3 ?_) H5 (e04.trans (ex.trans e5))
        rw [sp]
        exact stopsOf_bad (stopOf_is.1 hns)
  rintro H5 ⟨sts, qs, e5, hst, hD, hq, _⟩
  rw [lst, List.take_length] at hst
  have hday := d4 g len home st0 sts hr hh hst
  obtain ⟨k1, k2⟩ := qD _ hday
  have e05 := e04.trans e5
  have hR5 : SqT K H5 rt (roadV g len) := Evl.ex_t ((e23.trans e34).trans e5) (SqT.of hrt)
  have hDs : SqL K H5 D (qs.map V.ref) := SqL.of hD
  walk_at "go"
  intro x dx hx hdx ne
  have e2 : Ex H5 (upd (upd H5 dx (.own x)) x (.ins (He.ga K "Day") dx [])) := (Evl.Ex.new hdx).trans (Evl.Ex.new (by rw [upd_ne (Ne.symm ne)]; exact hx))
  refine ⟨x, dx, rt, D, wordOf g, len, home, st0, qs, sts, (), rfl, upd_same, Evl.ex_t e2 hR5, Evl.ex_l e2 hDs, hq.ex e2, fun z l' H6 keep fr hd hl' => ⟨rfl, ?_⟩, fun f z H6 e6 => k2 f z H6 (e05.trans (e2.trans e6))⟩
  have ek : Ex H5 H6 := fun b o hb => keep b o (ne_of_none hb hx) (e2 b o hb)
  exact k1 z x rt l' qs H6 (e05.trans ek) (Evl.fresh_back e05 hx) (Evl.fresh_back (e05.trans e2) fr) ⟨⟨dx, hd⟩, Evl.ex_t ek hR5, hl', hq.ex ek⟩
/-! #### _law_came -/
def sp_law_came (K : PySem.W.Frag) : Sp := fun vs H Q _ => ∃ (l : List Nat) (_u : Unit), vs = [.str (S l)] ∧ Asc l ∧ l.length ≤ 4000000 ∧ (readOf l = none → ∀ H', Ex H H' → Q (.str "text") H') ∧ ∀ d : RawD, readOf l = some d →
  (dayFlt (wordOf d.ring) d.len d.home d.start d.sts = none → ∀ a r sl ps H', Ex H H' → H a = none → H sl = none → DayAt K H' a r sl (wordOf d.ring) d.len d.home d.start ps d.sts → Q (.ref a) H') ∧ (∀ f, dayFlt (wordOf d.ring) d.len d.home d.start d.sts = some f → ∀ H', Ex H H' → Q (.str (fltW f)) H')
set_option maxHeartbeats 4000000 in
theorem ok_law_came (T : Txt K mg D) : FnOk P w K mg base CX0 7 (He.ga K "_law_came") (D "_law_came") ["_law_text"] (sp_law_came K) := by
  refine T.F_law_came.ok sc_law_came (fun vs H Q E h => ?_) (fun cdv A outer s H vs Q E hr h => ?_)
  · obtain ⟨_, _, rfl, _⟩ := h
    rfl
  obtain ⟨l, _, rfl, al, hl, qN, qD⟩ := h
  refine ⟨_, PSs.nox (pss_one (ps_try_many (Wout := fun _ _ _ _ => False) rfl rfl takes0
      (fun W pn xe tk po => (by refine pss_eq (pss_one (ps_ret (pe_callS (ok_read T) hr rfl T.m_read T.F_read.kp T.b_read (fun σ => passAt tk σ) (by exact (pa_cons (pv 0) pa_nil))))) ?_; first | (dsimp only [L2.Cx.suite, L2.Cx.tr]; done) | (dsimp only [L2.Cx.suite, L2.Cx.tr]; rfl) | rfl))
      (HdsOk.cons ⟨rfl, by decide, Or.inl T.m_NoDay⟩ (fun a oe cls d pn _ _ => (by refine pss_eq (pss_one (ps_ret pe_str)) ?_; first | (dsimp only [L2.Cx.suite, L2.Cx.tr]; done) | (dsimp only [L2.Cx.suite, L2.Cx.tr]; rfl) | rfl))
      (HdsOk.cons ⟨rfl, by decide, Or.inl T.m_BadRoad⟩ (fun a oe cls d pn _ _ => (by refine pss_eq (pss_one (ps_ret pe_str)) ?_; first | (dsimp only [L2.Cx.suite, L2.Cx.tr]; done) | (dsimp only [L2.Cx.suite, L2.Cx.tr]; rfl) | rfl))
      (HdsOk.cons ⟨rfl, by decide, Or.inl T.m_OffRoad⟩ (fun a oe cls d pn _ _ => (by refine pss_eq (pss_one (ps_ret pe_str)) ?_; first | (dsimp only [L2.Cx.suite, L2.Cx.tr]; done) | (dsimp only [L2.Cx.suite, L2.Cx.tr]; rfl) | rfl))
      (HdsOk.cons ⟨rfl, by decide, Or.inl T.m_BadTime⟩ (fun a oe cls d pn _ _ => (by refine pss_eq (pss_one (ps_ret pe_str)) ?_; first | (dsimp only [L2.Cx.suite, L2.Cx.tr]; done) | (dsimp only [L2.Cx.suite, L2.Cx.tr]; rfl) | rfl))
      (HdsOk.cons ⟨rfl, by decide, Or.inl T.m_TooMany⟩ (fun a oe cls d pn _ _ => (by refine pss_eq (pss_one (ps_ret pe_str)) ?_; first | (dsimp only [L2.Cx.suite, L2.Cx.tr]; done) | (dsimp only [L2.Cx.suite, L2.Cx.tr]; rfl) | rfl))
      .nil))))))), ?_⟩
  walk_at "go"
  refine ⟨fun hno H' e => ⟨true, T.e_NoDay_NoDay, fun _ a _ => qN hno H' e, fun y => Bool.noConfusion y⟩, fun d hd => ⟨(qD d hd).1, fun f hf H' e => ?_⟩⟩
  have q2 := (qD d hd).2 f hf H' e
  cases f
  · exact ⟨false, T.e_BadRoad_NoDay, fun y => Bool.noConfusion y, fun _ => ⟨true, T.e_BadRoad_BadRoad, fun _ a _ => q2, fun y => Bool.noConfusion y⟩⟩
  · exact ⟨false, T.e_OffRoad_NoDay, fun y => Bool.noConfusion y, fun _ => ⟨false, T.e_OffRoad_BadRoad, fun y => Bool.noConfusion y, fun _ => ⟨true, T.e_OffRoad_OffRoad, fun _ a _ => q2, fun y => Bool.noConfusion y⟩⟩⟩
  · exact ⟨false, T.e_BadTime_NoDay, fun y => Bool.noConfusion y, fun _ => ⟨false, T.e_BadTime_BadRoad, fun y => Bool.noConfusion y, fun _ => ⟨false, T.e_BadTime_OffRoad, fun y => Bool.noConfusion y, fun _ => ⟨true, T.e_BadTime_BadTime, fun _ a _ => q2, fun y => Bool.noConfusion y⟩⟩⟩⟩
  · exact ⟨false, T.e_TooMany_NoDay, fun y => Bool.noConfusion y, fun _ => ⟨false, T.e_TooMany_BadRoad, fun y => Bool.noConfusion y, fun _ => ⟨false, T.e_TooMany_OffRoad, fun y => Bool.noConfusion y, fun _ => ⟨false, T.e_TooMany_BadTime, fun y => Bool.noConfusion y, fun _ => ⟨true, T.e_TooMany_TooMany, fun _ a _ => q2, fun y => Bool.noConfusion y⟩⟩⟩⟩⟩
/-! #### _law_based -/
def sp_law_based (K : PySem.W.Frag) : Sp := fun vs H Q _ => ∃ (l : List Nat) (_u : Unit), vs = [.str (S l)] ∧ Asc l ∧ l.length ≤ 4000000 ∧ (readOf l = none ∨ ∃ d f, readOf l = some d ∧ dayFlt (wordOf d.ring) d.len d.home d.start d.sts = some f) ∧ ∀ H', Ex H H' → Q (.bl true) H'
set_option maxHeartbeats 4000000 in
theorem ok_law_based (T : Txt K mg D) : FnOk P w K mg base CX0 7 (He.ga K "_law_based") (D "_law_based") ["_law_text"] (sp_law_based K) := by
  refine T.F_law_based.ok sc_law_based (fun vs H Q E h => ?_) (fun cdv A outer s H vs Q E hr h => ?_)
  · obtain ⟨_, _, rfl, _⟩ := h
    rfl
  obtain ⟨l, _, rfl, al, hl, cse, q⟩ := h
  refine ⟨_, PSs.nox (pss_one (ps_try_as (i := 1) (Wout := fun _ _ _ _ => False) rfl rfl sc_law_based.nd rfl rfl ⟨rfl, by decide, Or.inl T.m_RouteError⟩ takes0
      (fun W pn xe tk po => (by refine pss_eq (pss_one (ps_ret (pe_callS (ok_read T) hr rfl T.m_read T.F_read.kp T.b_read (fun σ => passAt tk σ) (by exact (pa_cons (pv 0) pa_nil))))) ?_; first | (dsimp only [L2.Cx.suite, L2.Cx.tr]; done) | (dsimp only [L2.Cx.suite, L2.Cx.tr]; rfl) | rfl))
      (fun a oe cls d pn hz hf => (by refine pss_eq (pss_cons (ps_set (i := 2) sc_law_based.nd rfl (Or.inl rfl) (pe_lst (pa_cons (pe_callB (call_isX hz hf) rfl T.m_isinstance (by decide +kernel) (pa_cons (pv 1) (pa_cons (pe_glob (v := V.ref (He.ga K "BadRoad")) rfl T.m_BadRoad rfl) pa_nil))) (pa_cons (pe_callB (call_isX hz hf) rfl T.m_isinstance (by decide +kernel) (pa_cons (pv 1) (pa_cons (pe_glob (v := V.ref (He.ga K "OffRoad")) rfl T.m_OffRoad rfl) pa_nil))) (pa_cons (pe_callB (call_isX hz hf) rfl T.m_isinstance (by decide +kernel) (pa_cons (pv 1) (pa_cons (pe_glob (v := V.ref (He.ga K "BadTime")) rfl T.m_BadTime rfl) pa_nil))) pa_nil))))) (pss_cons (ps_set (i := 2) sc_law_based.nd rfl (Or.inl rfl) (pe_op op_cat (pv 2) (pe_lst (pa_cons (pe_callB (call_isX hz hf) rfl T.m_isinstance (by decide +kernel) (pa_cons (pv 1) (pa_cons (pe_glob (v := V.ref (He.ga K "TooMany")) rfl T.m_TooMany rfl) pa_nil))) (pa_cons (pe_callB (call_isX hz hf) rfl T.m_isinstance (by decide +kernel) (pa_cons (pv 1) (pa_cons (pe_glob (v := V.ref (He.ga K "NoDay")) rfl T.m_NoDay rfl) pa_nil))) pa_nil))))) (pss_one (ps_ret (pe_and (pe_callB (call_isX hz hf) rfl T.m_isinstance (by decide +kernel) (pa_cons (pv 1) (pa_cons (pe_bltn (v := V.ty "ValueError") (u := Value.type "ValueError") rfl T.m_ValueError (by decide +kernel) rfl) pa_nil))) (pe_one (pe_cmpR op_eq (pe_bm PySem.F.plainAttrs_list PySem.F.slot_list_count PySem.F.type_list_count mt_countB (pv 2) (pa_cons pe_bl pa_nil)) pe_int (nomark _)))))))) ?_; first | (dsimp only [L2.Cx.suite, L2.Cx.tr]; done) | (dsimp only [L2.Cx.suite, L2.Cx.tr]; rfl) | rfl)))), ?_⟩
  walk_at "go"
  refine ⟨fun hno H3 eH => ?_, fun d hd => ⟨fun hf => ?_, fun f hf H3 eH => ?_⟩⟩
  · refine ⟨true, T.e_NoDay_RouteError, fun _ a fa => ?_, fun y => Bool.noConfusion y⟩
    have c1 := T.ec_NoDay
    have i1 := T.is_NoDay_BadRoad
    have i2 := T.is_NoDay_OffRoad
    have i3 := T.is_NoDay_BadTime
    have i4 := T.is_NoDay_TooMany
    have i5 := T.is_NoDay_NoDay
    have i7 := T.is_NoDay_ValueError
    walk_at "go"
    intro p4 hp4
    walk_at "go"
    intro p5 hp5
    have n5 : p4 ≠ p5 := fun y => by rw [← y, upd_same] at hp5; cases hp5
    refine ⟨p4, p5, _, _, rfl, rfl, (by rw [upd_ne n5]; exact upd_same), upd_same, Evl.sz_of (by decide), fun p6 hp6 => ?_⟩
    walk_at "go"
    refine ⟨Or.inl ⟨rfl, _, SqL.of upd_same⟩, p6, [false, false, false, false, true], true, rfl, rfl, SqL.of upd_same, ?_⟩
    walk_at "go"
    exact q _ (((eH.trans (Evl.Ex.new hp4)).trans (Evl.Ex.new hp5)).trans (Evl.Ex.new hp6))
  · rcases cse with h | ⟨d', f, h1, h2⟩
    · rw [h] at hd; cases hd
    · rw [h1] at hd
      obtain rfl := Option.some.inj hd
      rw [hf] at h2; cases h2
  cases f
  · refine ⟨true, T.e_BadRoad_RouteError, fun _ a fa => ?_, fun y => Bool.noConfusion y⟩
    have c1 := T.ec_BadRoad
    have i1 := T.is_BadRoad_BadRoad
    have i2 := T.is_BadRoad_OffRoad
    have i3 := T.is_BadRoad_BadTime
    have i4 := T.is_BadRoad_TooMany
    have i5 := T.is_BadRoad_NoDay
    have i7 := T.is_BadRoad_ValueError
    walk_at "go"
    intro p4 hp4
    walk_at "go"
    intro p5 hp5
    have n5 : p4 ≠ p5 := fun y => by rw [← y, upd_same] at hp5; cases hp5
    refine ⟨p4, p5, _, _, rfl, rfl, (by rw [upd_ne n5]; exact upd_same), upd_same, Evl.sz_of (by decide), fun p6 hp6 => ?_⟩
    walk_at "go"
    refine ⟨Or.inl ⟨rfl, _, SqL.of upd_same⟩, p6, [true, false, false, false, false], true, rfl, rfl, SqL.of upd_same, ?_⟩
    walk_at "go"
    exact q _ (((eH.trans (Evl.Ex.new hp4)).trans (Evl.Ex.new hp5)).trans (Evl.Ex.new hp6))
  · refine ⟨true, T.e_OffRoad_RouteError, fun _ a fa => ?_, fun y => Bool.noConfusion y⟩
    have c1 := T.ec_OffRoad
    have i1 := T.is_OffRoad_BadRoad
    have i2 := T.is_OffRoad_OffRoad
    have i3 := T.is_OffRoad_BadTime
    have i4 := T.is_OffRoad_TooMany
    have i5 := T.is_OffRoad_NoDay
    have i7 := T.is_OffRoad_ValueError
    walk_at "go"
    intro p4 hp4
    walk_at "go"
    intro p5 hp5
    have n5 : p4 ≠ p5 := fun y => by rw [← y, upd_same] at hp5; cases hp5
    refine ⟨p4, p5, _, _, rfl, rfl, (by rw [upd_ne n5]; exact upd_same), upd_same, Evl.sz_of (by decide), fun p6 hp6 => ?_⟩
    walk_at "go"
    refine ⟨Or.inl ⟨rfl, _, SqL.of upd_same⟩, p6, [false, true, false, false, false], true, rfl, rfl, SqL.of upd_same, ?_⟩
    walk_at "go"
    exact q _ (((eH.trans (Evl.Ex.new hp4)).trans (Evl.Ex.new hp5)).trans (Evl.Ex.new hp6))
  · refine ⟨true, T.e_BadTime_RouteError, fun _ a fa => ?_, fun y => Bool.noConfusion y⟩
    have c1 := T.ec_BadTime
    have i1 := T.is_BadTime_BadRoad
    have i2 := T.is_BadTime_OffRoad
    have i3 := T.is_BadTime_BadTime
    have i4 := T.is_BadTime_TooMany
    have i5 := T.is_BadTime_NoDay
    have i7 := T.is_BadTime_ValueError
    walk_at "go"
    intro p4 hp4
    walk_at "go"
    intro p5 hp5
    have n5 : p4 ≠ p5 := fun y => by rw [← y, upd_same] at hp5; cases hp5
    refine ⟨p4, p5, _, _, rfl, rfl, (by rw [upd_ne n5]; exact upd_same), upd_same, Evl.sz_of (by decide), fun p6 hp6 => ?_⟩
    walk_at "go"
    refine ⟨Or.inl ⟨rfl, _, SqL.of upd_same⟩, p6, [false, false, true, false, false], true, rfl, rfl, SqL.of upd_same, ?_⟩
    walk_at "go"
    exact q _ (((eH.trans (Evl.Ex.new hp4)).trans (Evl.Ex.new hp5)).trans (Evl.Ex.new hp6))
  · refine ⟨true, T.e_TooMany_RouteError, fun _ a fa => ?_, fun y => Bool.noConfusion y⟩
    have c1 := T.ec_TooMany
    have i1 := T.is_TooMany_BadRoad
    have i2 := T.is_TooMany_OffRoad
    have i3 := T.is_TooMany_BadTime
    have i4 := T.is_TooMany_TooMany
    have i5 := T.is_TooMany_NoDay
    have i7 := T.is_TooMany_ValueError
    walk_at "go"
    intro p4 hp4
    walk_at "go"
    intro p5 hp5
    have n5 : p4 ≠ p5 := fun y => by rw [← y, upd_same] at hp5; cases hp5
    refine ⟨p4, p5, _, _, rfl, rfl, (by rw [upd_ne n5]; exact upd_same), upd_same, Evl.sz_of (by decide), fun p6 hp6 => ?_⟩
    walk_at "go"
    refine ⟨Or.inl ⟨rfl, _, SqL.of upd_same⟩, p6, [false, false, false, true, false], true, rfl, rfl, SqL.of upd_same, ?_⟩
    walk_at "go"
    exact q _ (((eH.trans (Evl.Ex.new hp4)).trans (Evl.Ex.new hp5)).trans (Evl.Ex.new hp6))
/-! #### law -/
theorem dueW_ne (f : Flt) : (V.str (dueW (some f)) = V.str "day") ↔ False := by cases f <;> decide +kernel
def roadD (ring : Bool) (len : Int) : PyData := .tuple [.str (wordOf ring), .int len]
theorem shaped_road (ring : Bool) (len : Int) : SeqAt.shaped (roadD ring len) = true := by
  have hs := strOk_word ring
  unfold SeqAt.shaped roadD
  simp [PyData.canLay0, PyData.canLayAll0, PyData.depth, PyData.depthAll, hs]
theorem road_dp {K : PySem.W.Frag} {H : Hp} {r : Addr} {ring : Bool} {len : Int} (hr : SqT K H r (roadV ring len)) : Dp K H (.ref r) (roadD ring len) := .tup hr (.cons (.str _) (.cons (.int _) .nil))
theorem read_big {l : List Nat} {d : RawD} (h : readOf l = some d) : Big d ∧ d.sts.length ≤ l.length := by
  unfold readOf at h
  by_cases c : l.getLast? = some 10
  · rw [if_pos c] at h
    obtain ⟨b, e⟩ := rows_big h
    have z := cutAt_len 10 l.dropLast
    rw [List.length_dropLast] at z
    exact ⟨b, by omega⟩
  · rw [if_neg c] at h; cases h
def sp_law (K : PySem.W.Frag) : Sp := fun vs H Q _ => ∃ (a : Addr) (ns : List Int), vs = [.ref a] ∧ SqL K H a (ns.map V.int) ∧ ns.length ≤ 63 ∧ ∀ H', Q (.bl true) H'
set_option maxHeartbeats 4000000 in
theorem ok_law (T : Txt K mg D) : FnOk P w K mg base CX0 8 (He.ga K "law") (D "law") ["_law_script"] (sp_law K) := by
  refine T.F_law.ok sc_law (fun vs H Q E h => ?_) (fun cdv A outer s H vs Q E hr h => ?_)
  · obtain ⟨_, _, rfl, _⟩ := h
    rfl
  obtain ⟨a, ns, rfl, hS, hn, q⟩ := h
  refine ⟨_, PSs.nox (pss_cons (ps_set (i := 1) sc_law.nd rfl (Or.inl rfl) (pe_call (ok_law_text_by T) (hr.mono (by decide)) rfl T.m_law_text_by T.F_law_text_by.kp T.b_law_text_by .nil pass0 (pa_cons (pv 0) pa_nil)))
    (pss_cons (ps_for PassesOwn.never rfl (pi_range1 rfl T.m_range (pa_cons (pe_op op_mod (pe_call (ok_law_cell_at T) (hr.mono (by decide)) rfl T.m_law_cell_at T.F_law_cell_at.kp T.b_law_cell_at .nil pass0 (pa_cons (pv 0) (pa_cons pe_int pa_nil))) pe_int) pa_nil)) (pg_name (i := 2) sc_law.nd rfl (Or.inl rfl))
      (pss_one (ps_set (i := 1) sc_law.nd rfl (Or.inl rfl) (pe_call (ok_law_spoilt T) (hr.mono (by decide)) rfl T.m_law_spoilt T.F_law_spoilt.kp T.b_law_spoilt .nil pass0 (pa_cons (pv 1) (pa_cons (pe_call (ok_law_cell_at T) (hr.mono (by decide)) rfl T.m_law_cell_at T.F_law_cell_at.kp T.b_law_cell_at .nil pass0 (pa_cons (pv 0) (pa_cons (pe_op op_add pe_int (pe_op op_mul pe_int (pv 2))) pa_nil))) (pa_cons (pe_call (ok_law_cell_at T) (hr.mono (by decide)) rfl T.m_law_cell_at T.F_law_cell_at.kp T.b_law_cell_at .nil pass0 (pa_cons (pv 0) (pa_cons (pe_op op_add pe_int (pe_op op_mul pe_int (pv 2))) pa_nil))) pa_nil)))))))
    (pss_cons (ps_set (i := 3) sc_law.nd rfl (Or.inr rfl) (pe_call (ok_law_raw T) (hr.mono (by decide)) rfl T.m_law_raw T.F_law_raw.kp T.b_law_raw .nil pass0 (pa_cons (pv 1) pa_nil)))
    (pss_cons (ps_set (i := 4) sc_law.nd rfl (Or.inl rfl) (pe_call (ok_law_came T) hr rfl T.m_law_came T.F_law_came.kp T.b_law_came .nil pass0 (pa_cons (pv 1) pa_nil)))
    (pss_cons (ps_if (pt_cmpR op_ne (pe_call (ok_law_due T) (hr.mono (by decide)) rfl T.m_law_due T.F_law_due.kp T.b_law_due .nil pass0 (pa_cons (pv 3) pa_nil)) pe_str (nomark _)) (pss_one (ps_ret (pe_and (pe_cmpR op_eq (pv 4) (pe_call (ok_law_due T) (hr.mono (by decide)) rfl T.m_law_due T.F_law_due.kp T.b_law_due .nil pass0 (pa_cons (pv 3) pa_nil)) (nomark _)) (pe_one (pe_cmpR op_isBl (pe_call (ok_law_based T) hr rfl T.m_law_based T.F_law_based.kp T.b_law_based .nil pass0 (pa_cons (pv 1) pa_nil)) pe_bl (nomark _)))))) pss_nil)
    (pss_cons (ps_if (PW.pt (pw_or (pt_not (pt_val (pe_callB call_isi rfl T.m_isinstance (by decide +kernel) (pa_cons (pv 4) (pa_cons (pe_glob (v := V.ref (He.ga K "Day")) rfl T.m_Day rfl) pa_nil))))) (pw_or (pt_cmpR (op_neD hr.units) (pe_fld (pv 4) rfl) (pe_tup (pa_cons (pe_ix ix_list (pv 3) pe_int (fun _ _ => rfl)) (pa_cons (pe_ix ix_list (pv 3) pe_int (fun _ _ => rfl)) pa_nil))) (nomark _)) (pw_or (pt_cmpR op_ne (pe_fld (pv 4) rfl) (pe_ix ix_list (pv 3) pe_int (fun _ _ => rfl)) (nomark _)) (pw_or1 (pt_cmpR op_ne (pe_fld (pv 4) rfl) (pe_ix ix_list (pv 3) pe_int (fun _ _ => rfl)) (nomark _))))))) (pss_one (ps_ret pe_bl)) pss_nil)
    (pss_one (ps_ret (pe_cmpR (op_eqD hr.units) (pe_fld (pv 4) rfl) (pe_lc (own := [("_law_k", 2)]) (g := gName 2) (tt := tYes) rfl sc_law.nd (pi_range3 rfl T.m_range (pa_cons pe_int (pa_cons (pe_callB call_len_seq rfl T.m_len PySem.boot_len (pa_cons (pv 3) pa_nil)) (pa_cons pe_int pa_nil)))) (blkOk_by (own := [("_law_k", 2)]) (N := N_law) (sc := defScope s_law) (by decide +kernel)) (fun _ _ _ _ _ => pg_name (i := 2) sc_law.nd rfl (Or.inl rfl)) (fun _ _ _ _ _ => pts_nil) (fun _ _ _ _ _ => (by refine' pe_eq (t' := ?tt4) (pe_tup (pa_cons (pe_ix ix_list (pv 3) (pv 2) (fun _ _ => rfl)) (pa_cons (pe_ix ix_list (pv 3) (pe_op op_add (pv 2) pe_int) (fun _ _ => rfl)) (pa_cons (pe_ix ix_list (pv 3) (pe_op op_add (pv 2) pe_int) (fun _ _ => rfl)) (pa_cons (pe_ix ix_list (pv 3) (pe_op op_add (pv 2) pe_int) (fun _ _ => rfl)) pa_nil))))) ?qq4; case qq4 => (first | (dsimp only [L2.Cx.blk]; done) | (dsimp only [L2.Cx.blk]; rfl) | rfl)))) (nomark _)))))))))), ?_⟩
  dsimp only [L2.cxOf, L2.Cx.nox]
  walk_at "go"
  intro l0 H1 al0 hl0 e1
  walk_at "go"
  refine ⟨a, ns, 40, rfl, Evl.ex_l e1 hS, hn, fun c40 => ?_⟩
  have m0 := Int.emod_nonneg c40 (show (3 : Int) ≠ 0 by decide)
  have m1 := Int.emod_lt_of_pos c40 (show (0 : Int) < 3 by decide)
  walk_at "go"
  refine for_range (lo := 0) (n := (c40 % 3).toNat) (fun i σ H' => ∃ (l : List Nat) (x : Option V), σ = [some (.ref a), some (.str (S l)), x, none, none] ∧ Asc l ∧ l.length ≤ 2000000 + i ∧ H' = H1) ⟨l0, _, rfl, al0, hl0, rfl⟩ ?_ ?_
  · rintro i σ H' hi ⟨l, x, rfl, al, hl, rfl⟩
    walk_at "go"
    refine ⟨a, ns, _, rfl, Evl.ex_l e1 hS, hn, fun x1 => ?_⟩
    walk_at "go"
    refine ⟨a, ns, _, rfl, Evl.ex_l e1 hS, hn, fun x2 => ?_⟩
    walk_at "go"
    refine ⟨l, x1, x2, rfl, al, by omega, fun l' al' hl' => ?_⟩
    exact ⟨l', _, rfl, al', by omega, rfl⟩
  rintro σ H' ⟨l, x, rfl, al, hl, rfl⟩
  have hl3 : l.length ≤ 3000000 := by omega
  clear hl hl0 al0 l0
  walk_at "go"
  refine ⟨l, (), rfl, hl3, fun hno H2 e2 => ?_, fun d hd ra H2 e2 fra hra => ?_⟩
  · walk_at "go"
    refine ⟨l, (), rfl, al, by omega, fun _ H3 e3 => ?_, fun d hd => by rw [hno] at hd; cases hd⟩
    walk_at "go"
    refine Or.inl ⟨rfl, ?_⟩
    walk_at "go"
    refine Or.inl ⟨rfl, ?_⟩
    walk_at "go"
    refine ⟨l, (), rfl, al, by omega, .inl hno, fun H4 e4 => ?_⟩
    walk_at "go"
    exact q _
  obtain ⟨big, many⟩ := read_big hd
  have hd4 : d.sts.length < 4000000 := by omega
  walk_at "go"
  cases hf : dayFlt (wordOf d.ring) d.len d.home d.start d.sts with
  | some f =>
    refine ⟨l, (), rfl, al, by omega, fun hno => (by rw [hno] at hd; cases hd), fun d' hd' => ?_⟩
    obtain rfl : d = d' := Option.some.inj (hd.symm.trans hd')
    refine ⟨fun z => (by rw [hf] at z; cases z), fun f' hf' H3 e3 => ?_⟩
    obtain rfl : f = f' := Option.some.inj (hf.symm.trans hf')
    have hra3 := e3 _ _ hra
    walk_at "go"
    refine Or.inr ⟨ra, d, rfl, hra3, big, hd4, ?_⟩
    rw [hf]
    walk_at "go"
    refine iteTb (by show (!decide (V.str (dueW (some f)) = V.str "day")) = true; rw [decF (fun z => (dueW_ne f).mp z)]; rfl) ?_
    walk_at "go"
    refine Or.inr ⟨ra, d, rfl, hra3, big, hd4, ?_⟩
    rw [hf]
    walk_at "go"
    refine iteTb (decT rfl) ?_
    walk_at "go"
    refine ⟨l, (), rfl, al, by omega, .inr ⟨d, f, hd, hf⟩, fun H4 e4 => ?_⟩
    walk_at "go"
    exact q _
  | none =>
    refine ⟨l, (), rfl, al, by omega, fun hno => (by rw [hno] at hd; cases hd), fun d' hd' => ?_⟩
    obtain rfl : d = d' := Option.some.inj (hd.symm.trans hd')
    refine ⟨fun _ da r sl ps H3 e3 fda fsl day => ?_, fun f z => (by rw [hf] at z; cases z)⟩
    obtain ⟨⟨dx, k1⟩, k2, k3, k4⟩ := id day
    have hra3 := e3 _ _ hra
    generalize hring : d.ring = g at *
    generalize hlen : d.len = len at *
    generalize hhome : d.home = home at *
    generalize hstart : d.start = st0 at *
    generalize hsts : d.sts = sts at *
    have hls : SqL K H3 ra (rawV (wordOf g) (rawI len home st0 sts)) := SqL.of hra3
    have a0 : atI (rawV (wordOf g) (rawI len home st0 sts)) 0 = some (.str (wordOf g)) := raw_0
    have a1 : atI (rawV (wordOf g) (rawI len home st0 sts)) 1 = some (.int len) := raw_1
    have a2 : atI (rawV (wordOf g) (rawI len home st0 sts)) 2 = some (.int home) := raw_2
    have a3 : atI (rawV (wordOf g) (rawI len home st0 sts)) 3 = some (.int st0) := raw_3
    walk_at "go"
    refine Or.inr ⟨ra, d, rfl, by rw [hring, hlen, hhome, hstart, hsts]; exact hra3, big, by rw [hsts]; exact hd4, ?_⟩
    rw [hring, hlen, hhome, hstart, hsts, hf]
    walk_at "go"
    refine ⟨_, _, .ref (He.ga K "Day"), .ref (He.ga K "Day"), true, rfl, .own _, .base (.ins k1 T.cl_Day T.iy_Day.ha T.iy_Day.hn T.iy_Day.ht T.iy_Day.hm), T.iz_Day, ?_⟩
    walk_at "go"
    refine ⟨da, _, dx, _, _, rfl, k1, T.cl_Day, T.na_Day_road, rfl, ?_⟩
    walk_at "go"
    intro t1 ht1
    have e4 := Evl.Ex.new (o := .tup (roadV g len)) ht1
    have h4 : (upd H3 t1 (.tup (roadV g len))) t1 = some (.tup (roadV g len)) := upd_same
    have same : HO.tup [V.str (wordOf g), V.int len] = HO.tup (roadV g len) := rfl
    rw [same]
    generalize upd H3 t1 (.tup (roadV g len)) = H4 at e4 h4
    have k1_4 := e4 _ _ k1
    have hls4 := Evl.ex_l e4 hls
    refine ⟨roadD g len, roadD g len, road_dp (Evl.ex_t e4 k2), road_dp (SqT.of h4), shaped_road _ _, shaped_road _ _, ?_⟩
    rw [eqv_self (shaped_road _ _)]
    walk_at "go"
    refine ⟨da, _, dx, _, _, rfl, k1_4, T.cl_Day, T.na_Day_home, rfl, ?_⟩
    walk_at "go"
    refine iteFb (neSelf rfl) ?_
    walk_at "go"
    refine ⟨da, _, dx, _, _, rfl, k1_4, T.cl_Day, T.na_Day_start, rfl, ?_⟩
    walk_at "go"
    refine iteFb (neSelf rfl) ?_
    walk_at "go"
    refine ⟨da, _, dx, _, _, rfl, k1_4, T.cl_Day, T.na_Day_stops, rfl, ?_⟩
    have hlV : (rawV (wordOf g) (rawI len home st0 sts)).length = 4 + 4 * sts.length := by rw [rawV_len, rawI_len]; omega
    have hlI : (((rawV (wordOf g) (rawI len home st0 sts)).length : Nat) : Int) = 4 + 4 * (sts.length : Int) := by rw [hlV]; omega
    walk_at "go"
    refine ⟨4, _, 4, sts.length, rfl, (by rw [hlI]; exact rg4g hd4), fun D hD => ?_⟩
    refine ⟨fun i m' H5 => m' = sts.length - i ∧ i ≤ sts.length ∧ ∃ qs, Ex H4 H5 ∧ H5 D = some (.lst (qs.map V.ref)) ∧ StopsR K H5 qs (sts.take i), ⟨_, rfl, Nat.zero_le _, [], Evl.Ex.new hD, upd_same, .nil⟩, ?_⟩
    rintro i m' H5 ⟨rfl, hin, qs, e5, hD5, hP5⟩
    rcases Nat.lt_or_ge i sts.length with hi | hi
    · refine Or.inr ⟨hi, fun H6 => ∃ qs, Ex H4 H6 ∧ H6 D = some (.lst (qs.map V.ref)) ∧ StopsR K H6 qs (sts.take (i + 1)), fun H6 z => ⟨_, (by omega : sts.length - (i + 1) < sts.length - i), rfl, hi, z⟩, ?_⟩
      rintro x4 H6 ⟨rfl, rfl⟩
      have hs : sts[i]? = some sts[i] := List.getElem?_eq_getElem hi
      obtain ⟨b0, b1, b2, b3⟩ := raw_at (w := wordOf g) (len := len) (home := home) (start := st0) hs
      have hls5 := Evl.ex_l e5 hls4
      walk_at "go"
      intro p hp
      have hqs : qs.length = i := by rw [hP5.len, List.length_take]; omega
      have hDn : D ≠ p := ne_of_none hD5 hp
      refine ⟨qs.map V.ref, (by rw [upd_ne hDn]; exact hD5), szb (by rw [List.length_map]; omega), qs ++ [p], ?_, ?_, ?_⟩
      · exact Evl.Ex.mut (e5.trans (Evl.Ex.new hp)) hD
      · rw [upd_same, List.map_append]; rfl
      · have ht : sts.take (i + 1) = sts.take i ++ [sts[i]] := by rw [List.take_succ, hs]; rfl
        rw [ht]
        exact StopsR.at_lst (ys := qs.map V.ref) (by rw [upd_ne hDn]; exact hD5) (StopsR.snoc (SqT.of upd_same) (hP5.ex (Evl.Ex.new hp)))
    obtain rfl : i = sts.length := by omega
    refine Or.inl ⟨hi, ?_⟩
    rw [List.take_length] at hP5
    walk_at "go"
    have e35 := e4.trans e5
    refine ⟨stopsD sts, stopsD sts, stops_dp (SqL.of (e35 _ _ k3)) (k4.ex e35), stops_dp (SqL.of hD5) hP5, shaped_stops _, shaped_stops _, ?_⟩
    rw [eqv_self (shaped_stops sts)]
    walk_at "go"
    exact q _
end

/-! ### the head -/
def d_is_road : He.DefD := ⟨("is_road", none), "is_road", "is_road", defArgs s_is_road, defBody s_is_road, defScope s_is_road, [], []⟩
def d_has_place : He.DefD := ⟨("has_place", none), "has_place", "has_place", defArgs s_has_place, defBody s_has_place, defScope s_has_place, [], []⟩
def d_is_time : He.DefD := ⟨("is_time", none), "is_time", "is_time", defArgs s_is_time, defBody s_is_time, defScope s_is_time, [], []⟩
def d_check_stop : He.DefD := ⟨("check_stop", none), "check_stop", "check_stop", defArgs s_check_stop, defBody s_check_stop, defScope s_check_stop, [], []⟩
def d_check_day : He.DefD := ⟨("check_day", none), "check_day", "check_day", defArgs s_check_day, defBody s_check_day, defScope s_check_day, [], []⟩
def d_Day___init : He.DefD := ⟨("Day", some "__init__"), "__init__", "Day.__init__", defArgs s_Day___init, defBody s_Day___init, defScope s_Day___init, [], []⟩
def d_number_of : He.DefD := ⟨("number_of", none), "number_of", "number_of", defArgs s_number_of, defBody s_number_of, defScope s_number_of, [], []⟩
def d_numbers_of : He.DefD := ⟨("numbers_of", none), "numbers_of", "numbers_of", defArgs s_numbers_of, defBody s_numbers_of, defScope s_numbers_of, [], []⟩
def d_road_of : He.DefD := ⟨("road_of", none), "road_of", "road_of", defArgs s_road_of, defBody s_road_of, defScope s_road_of, [], []⟩
def d_read : He.DefD := ⟨("read", none), "read", "read", defArgs s_read, defBody s_read, defScope s_read, [], []⟩
def d_law_cell_at : He.DefD := ⟨("_law_cell_at", none), "_law_cell_at", "_law_cell_at", defArgs s_law_cell_at, defBody s_law_cell_at, defScope s_law_cell_at, [], []⟩
def d_law_spoilt : He.DefD := ⟨("_law_spoilt", none), "_law_spoilt", "_law_spoilt", defArgs s_law_spoilt, defBody s_law_spoilt, defScope s_law_spoilt, [], []⟩
def d_law_number : He.DefD := ⟨("_law_number", none), "_law_number", "_law_number", defArgs s_law_number, defBody s_law_number, defScope s_law_number, [], []⟩
def d_law_text_by : He.DefD := ⟨("_law_text_by", none), "_law_text_by", "_law_text_by", defArgs s_law_text_by, defBody s_law_text_by, defScope s_law_text_by, [], []⟩
def d_law_read_number : He.DefD := ⟨("_law_read_number", none), "_law_read_number", "_law_read_number", defArgs s_law_read_number, defBody s_law_read_number, defScope s_law_read_number, [], []⟩
def d_law_read_row : He.DefD := ⟨("_law_read_row", none), "_law_read_row", "_law_read_row", defArgs s_law_read_row, defBody s_law_read_row, defScope s_law_read_row, [], []⟩
def d_law_raw : He.DefD := ⟨("_law_raw", none), "_law_raw", "_law_raw", defArgs s_law_raw, defBody s_law_raw, defScope s_law_raw, [], []⟩
def d_law_off : He.DefD := ⟨("_law_off", none), "_law_off", "_law_off", defArgs s_law_off, defBody s_law_off, defScope s_law_off, [], []⟩
def d_law_due : He.DefD := ⟨("_law_due", none), "_law_due", "_law_due", defArgs s_law_due, defBody s_law_due, defScope s_law_due, [], []⟩
def d_law_came : He.DefD := ⟨("_law_came", none), "_law_came", "_law_came", defArgs s_law_came, defBody s_law_came, defScope s_law_came, [], []⟩
def d_law_based : He.DefD := ⟨("_law_based", none), "_law_based", "_law_based", defArgs s_law_based, defBody s_law_based, defScope s_law_based, [], []⟩
def d_law : He.DefD := ⟨("law", none), "law", "law", defArgs s_law, defBody s_law, defScope s_law, [], []⟩
def fn : List He.DefD := [d_is_road, d_has_place, d_is_time, d_check_stop, d_check_day, d_Day___init, d_number_of, d_numbers_of, d_road_of, d_read, d_law_cell_at, d_law_spoilt, d_law_number, d_law_text_by, d_law_read_number, d_law_read_row, d_law_raw, d_law_off, d_law_due, d_law_came, d_law_based, d_law]
abbrev fa : List He.Fa := [.glo "is_road", .glo "has_place", .glo "is_time", .glo "check_stop", .glo "check_day", .glo "number_of", .glo "numbers_of", .glo "road_of", .glo "read", .glo "_law_cell_at", .glo "_law_spoilt", .glo "_law_number", .glo "_law_text_by", .glo "_law_read_number", .glo "_law_read_row", .glo "_law_raw", .glo "_law_off", .glo "_law_due", .glo "_law_came", .glo "_law_based", .glo "law", .glo "RouteError", .exc "RouteError", .glo "BadRoad", .exc "BadRoad", .glo "OffRoad", .exc "OffRoad", .glo "BadTime", .exc "BadTime", .glo "TooMany", .exc "TooMany", .glo "NoDay", .exc "NoDay", .glo "Day", .cls "Day", .mkr "Day", .noat "Day" "home", .noat "Day" "road", .noat "Day" "start", .noat "Day" "stops", .exm "OffRoad" "NoDay" false, .exm "OffRoad" "BadRoad" false, .exm "OffRoad" "OffRoad" true, .exm "OffRoad" "BadTime" false, .exm "OffRoad" "TooMany" false, .exm "OffRoad" "RouteError" true, .exm "BadTime" "NoDay" false, .exm "BadTime" "BadRoad" false, .exm "BadTime" "OffRoad" false, .exm "BadTime" "BadTime" true, .exm "BadTime" "TooMany" false, .exm "BadTime" "RouteError" true, .exm "BadRoad" "NoDay" false, .exm "BadRoad" "BadRoad" true, .exm "BadRoad" "OffRoad" false, .exm "BadRoad" "BadTime" false, .exm "BadRoad" "TooMany" false, .exm "BadRoad" "RouteError" true, .exm "TooMany" "NoDay" false, .exm "TooMany" "BadRoad" false, .exm "TooMany" "OffRoad" false, .exm "TooMany" "BadTime" false, .exm "TooMany" "TooMany" true, .exm "TooMany" "RouteError" true, .exm "NoDay" "NoDay" true, .exm "NoDay" "BadRoad" false, .exm "NoDay" "OffRoad" false, .exm "NoDay" "BadTime" false, .exm "NoDay" "TooMany" false, .exm "NoDay" "RouteError" true, .str "LINE" "line", .str "RING" "ring", .int "LONGEST" 1000000000, .int "LATEST" 1000000000000, .int "MOST_STOPS" 7, .str "FIGURES" "0123456789", .int "MOST_FIGURES" 15, .glo "HOME_WORDS", .glo "STOP_WORDS", .free "int", .free "str", .free "range", .free "len", .free "list", .free "tuple", .free "isinstance", .free "max", .free "ValueError"]
def exl (K : PySem.W.Frag) : List Bool := [excCB K (He.ga K "OffRoad"), excCB K (He.ga K "BadTime"), excCB K (He.ga K "BadRoad"), excCB K (He.ga K "TooMany"), excCB K (He.ga K "NoDay"), tupCB K (He.ga K "HOME_WORDS") [("home" : Str), ("at" : Str)], tupCB K (He.ga K "STOP_WORDS") [("stop" : Str), ("from" : Str), ("to" : Str), ("for" : Str)], decide (PySem.W.kitOne K (.ref (He.ga K "OffRoad")) (.ref (He.ga K "Day")) = some false), decide (PySem.W.kitOne K (.ref (He.ga K "OffRoad")) (.ref (He.ga K "BadRoad")) = some false), decide (PySem.W.kitOne K (.ref (He.ga K "OffRoad")) (.ref (He.ga K "OffRoad")) = some true), decide (PySem.W.kitOne K (.ref (He.ga K "OffRoad")) (.ref (He.ga K "BadTime")) = some false), decide (PySem.W.kitOne K (.ref (He.ga K "OffRoad")) (.type "ValueError") = some true), decide (PySem.W.kitOne K (.ref (He.ga K "OffRoad")) (.ref (He.ga K "TooMany")) = some false), decide (PySem.W.kitOne K (.ref (He.ga K "OffRoad")) (.ref (He.ga K "NoDay")) = some false), decide (PySem.W.kitOne K (.ref (He.ga K "BadTime")) (.ref (He.ga K "Day")) = some false), decide (PySem.W.kitOne K (.ref (He.ga K "BadTime")) (.ref (He.ga K "BadRoad")) = some false), decide (PySem.W.kitOne K (.ref (He.ga K "BadTime")) (.ref (He.ga K "OffRoad")) = some false), decide (PySem.W.kitOne K (.ref (He.ga K "BadTime")) (.ref (He.ga K "BadTime")) = some true), decide (PySem.W.kitOne K (.ref (He.ga K "BadTime")) (.type "ValueError") = some true), decide (PySem.W.kitOne K (.ref (He.ga K "BadTime")) (.ref (He.ga K "TooMany")) = some false), decide (PySem.W.kitOne K (.ref (He.ga K "BadTime")) (.ref (He.ga K "NoDay")) = some false), decide (PySem.W.kitOne K (.ref (He.ga K "BadRoad")) (.ref (He.ga K "Day")) = some false), decide (PySem.W.kitOne K (.ref (He.ga K "BadRoad")) (.ref (He.ga K "BadRoad")) = some true), decide (PySem.W.kitOne K (.ref (He.ga K "BadRoad")) (.ref (He.ga K "OffRoad")) = some false), decide (PySem.W.kitOne K (.ref (He.ga K "BadRoad")) (.ref (He.ga K "BadTime")) = some false), decide (PySem.W.kitOne K (.ref (He.ga K "BadRoad")) (.type "ValueError") = some true), decide (PySem.W.kitOne K (.ref (He.ga K "BadRoad")) (.ref (He.ga K "TooMany")) = some false), decide (PySem.W.kitOne K (.ref (He.ga K "BadRoad")) (.ref (He.ga K "NoDay")) = some false), decide (PySem.W.kitOne K (.ref (He.ga K "TooMany")) (.ref (He.ga K "Day")) = some false), decide (PySem.W.kitOne K (.ref (He.ga K "TooMany")) (.ref (He.ga K "BadRoad")) = some false), decide (PySem.W.kitOne K (.ref (He.ga K "TooMany")) (.ref (He.ga K "OffRoad")) = some false), decide (PySem.W.kitOne K (.ref (He.ga K "TooMany")) (.ref (He.ga K "BadTime")) = some false), decide (PySem.W.kitOne K (.ref (He.ga K "TooMany")) (.type "ValueError") = some true), decide (PySem.W.kitOne K (.ref (He.ga K "TooMany")) (.ref (He.ga K "TooMany")) = some true), decide (PySem.W.kitOne K (.ref (He.ga K "TooMany")) (.ref (He.ga K "NoDay")) = some false), decide (PySem.W.kitOne K (.ref (He.ga K "NoDay")) (.ref (He.ga K "Day")) = some false), decide (PySem.W.kitOne K (.ref (He.ga K "NoDay")) (.ref (He.ga K "BadRoad")) = some false), decide (PySem.W.kitOne K (.ref (He.ga K "NoDay")) (.ref (He.ga K "OffRoad")) = some false), decide (PySem.W.kitOne K (.ref (He.ga K "NoDay")) (.ref (He.ga K "BadTime")) = some false), decide (PySem.W.kitOne K (.ref (He.ga K "NoDay")) (.type "ValueError") = some true), decide (PySem.W.kitOne K (.ref (He.ga K "NoDay")) (.ref (He.ga K "TooMany")) = some false), decide (PySem.W.kitOne K (.ref (He.ga K "NoDay")) (.ref (He.ga K "NoDay")) = some true), insCB K (He.ga K "Day"), decide (PySem.W.kitOne K (.ref (He.ga K "Day")) (.ref (He.ga K "Day")) = some true), decide (PySem.W.kitOne K (.type "str") (.ref (He.ga K "Day")) = some false), decide (PySem.W.kitOne K (.type "NoneType") (.ref (He.ga K "Day")) = some false), decide (PySem.W.kitOne K (.type "bool") (.ref (He.ga K "Day")) = some false), decide (PySem.W.kitOne K (.type "int") (.ref (He.ga K "Day")) = some false)]
def ex (K : PySem.W.Frag) : Bool := (exl K).all id
theorem exAt {K : PySem.W.Frag} (h : ex K = true) (i : Nat) {b : Bool} (e : (exl K)[i]? = some b) : b = true := List.all_eq_true.mp h b (List.mem_of_getElem? e)
abbrev R : PySem.W.OpenRow := PySem.W.OpenLaw.row PySem.Challenge.rw_routevan_k13_texts_refused
abbrev hk : PySem.W.Hook := He.hookX 6 fa fn [] [] ex
def ob (s : PySem.W.SharedT) : He.AlX := He.obsX 6 fa fn [] [] ex (HandSHeadRun.getT s)
theorem ob_eq (s : PySem.W.SharedT) : ob s = hk.obs s.abs := He.obsX_eq (HandSHeadRun.getT_eq s)
def names : List Str := [("RouteError" : Str), ("BadRoad" : Str), ("OffRoad" : Str), ("BadTime" : Str), ("TooMany" : Str), ("NoDay" : Str), ("LINE" : Str), ("RING" : Str), ("LONGEST" : Str), ("is_road" : Str), ("has_place" : Str), ("LATEST" : Str), ("MOST_STOPS" : Str), ("is_time" : Str), ("check_stop" : Str), ("check_day" : Str), ("Day" : Str), ("FIGURES" : Str), ("MOST_FIGURES" : Str), ("HOME_WORDS" : Str), ("STOP_WORDS" : Str), ("number_of" : Str), ("numbers_of" : Str), ("road_of" : Str), ("read" : Str), ("_law_cell_at" : Str), ("_law_spoilt" : Str), ("_law_number" : Str), ("_law_text_by" : Str), ("_law_read_number" : Str), ("_law_read_row" : Str), ("_law_raw" : Str), ("_law_off" : Str), ("_law_due" : Str), ("_law_came" : Str), ("_law_based" : Str)]
theorem run (w : World) : HandSHeadRun.RunEq R (PySem.W.view R.prog [41]) hk ob 6000 names w := by
  intro os
  kernel_rfl
theorem facts {P : Program} {w : World} {K : PySem.W.Frag} {h : Heap} {mg : Str → Option Value} {f : Addr} (KX : K.In h) (G : h.Ns mainGlobals mg) (hfa : mg ("law" : Str) = some (.ref f)) (c : He.SaysD fa fn K) (hx : ex K = true) :
    ∃ fd : FuncData, (∀ (s : Shared) (v : Value), BindsTo s fd ⟨[v], []⟩ [("_law_script", v)]) ∧ ∀ base : Heap, K.In base → base.Ns mainGlobals mg → FnOk P w K mg base CX0 8 f fd ["_law_script"] (sp_law K) := by
  obtain ⟨fd0, F0⟩ := c.def_ 0 (d := d_is_road) rfl
  obtain ⟨fd1, F1⟩ := c.def_ 1 (d := d_has_place) rfl
  obtain ⟨fd2, F2⟩ := c.def_ 2 (d := d_is_time) rfl
  obtain ⟨fd3, F3⟩ := c.def_ 3 (d := d_check_stop) rfl
  obtain ⟨fd4, F4⟩ := c.def_ 4 (d := d_check_day) rfl
  obtain ⟨fd5, F5⟩ := c.def_ 5 (d := d_Day___init) rfl
  obtain ⟨fd6, F6⟩ := c.def_ 6 (d := d_number_of) rfl
  obtain ⟨fd7, F7⟩ := c.def_ 7 (d := d_numbers_of) rfl
  obtain ⟨fd8, F8⟩ := c.def_ 8 (d := d_road_of) rfl
  obtain ⟨fd9, F9⟩ := c.def_ 9 (d := d_read) rfl
  obtain ⟨fd10, F10⟩ := c.def_ 10 (d := d_law_cell_at) rfl
  obtain ⟨fd11, F11⟩ := c.def_ 11 (d := d_law_spoilt) rfl
  obtain ⟨fd12, F12⟩ := c.def_ 12 (d := d_law_number) rfl
  obtain ⟨fd13, F13⟩ := c.def_ 13 (d := d_law_text_by) rfl
  obtain ⟨fd14, F14⟩ := c.def_ 14 (d := d_law_read_number) rfl
  obtain ⟨fd15, F15⟩ := c.def_ 15 (d := d_law_read_row) rfl
  obtain ⟨fd16, F16⟩ := c.def_ 16 (d := d_law_raw) rfl
  obtain ⟨fd17, F17⟩ := c.def_ 17 (d := d_law_off) rfl
  obtain ⟨fd18, F18⟩ := c.def_ 18 (d := d_law_due) rfl
  obtain ⟨fd19, F19⟩ := c.def_ 19 (d := d_law_came) rfl
  obtain ⟨fd20, F20⟩ := c.def_ 20 (d := d_law_based) rfl
  obtain ⟨fd21, F21⟩ := c.def_ 21 (d := d_law) rfl
  let D : Str → FuncData := fun x => ([(("is_road" : Str), fd0), (("has_place" : Str), fd1), (("is_time" : Str), fd2), (("check_stop" : Str), fd3), (("check_day" : Str), fd4), (("Day.__init__" : Str), fd5), (("number_of" : Str), fd6), (("numbers_of" : Str), fd7), (("road_of" : Str), fd8), (("read" : Str), fd9), (("_law_cell_at" : Str), fd10), (("_law_spoilt" : Str), fd11), (("_law_number" : Str), fd12), (("_law_text_by" : Str), fd13), (("_law_read_number" : Str), fd14), (("_law_read_row" : Str), fd15), (("_law_raw" : Str), fd16), (("_law_off" : Str), fd17), (("_law_due" : Str), fd18), (("_law_came" : Str), fd19), (("_law_based" : Str), fd20), (("law" : Str), fd21)].lookup x).getD fd21
  have T : Txt K mg D := {
    F_is_road := F0,
    m_is_road := He.glo_ok KX G (c.fact 0 (f := (.glo "is_road")) rfl),
    b_is_road := F0.bindsN fun _ _ _ _ _ _ us hl => match us, hl with | [_], _ => rfl,
    F_has_place := F1,
    m_has_place := He.glo_ok KX G (c.fact 1 (f := (.glo "has_place")) rfl),
    b_has_place := F1.bindsN fun _ _ _ _ _ _ us hl => match us, hl with | [_, _], _ => rfl,
    F_is_time := F2,
    m_is_time := He.glo_ok KX G (c.fact 2 (f := (.glo "is_time")) rfl),
    b_is_time := F2.bindsN fun _ _ _ _ _ _ us hl => match us, hl with | [_], _ => rfl,
    F_check_stop := F3,
    m_check_stop := He.glo_ok KX G (c.fact 3 (f := (.glo "check_stop")) rfl),
    b_check_stop := F3.bindsN fun _ _ _ _ _ _ us hl => match us, hl with | [_, _], _ => rfl,
    F_check_day := F4,
    m_check_day := He.glo_ok KX G (c.fact 4 (f := (.glo "check_day")) rfl),
    b_check_day := F4.bindsN fun _ _ _ _ _ _ us hl => match us, hl with | [_, _, _, _], _ => rfl,
    F_Day___init := F5,
    b_Day___init := F5.bindsN fun _ _ _ _ _ _ us hl => match us, hl with | [_, _, _, _, _], _ => rfl,
    F_number_of := F6,
    m_number_of := He.glo_ok KX G (c.fact 5 (f := (.glo "number_of")) rfl),
    b_number_of := F6.bindsN fun _ _ _ _ _ _ us hl => match us, hl with | [_], _ => rfl,
    F_numbers_of := F7,
    m_numbers_of := He.glo_ok KX G (c.fact 6 (f := (.glo "numbers_of")) rfl),
    b_numbers_of := F7.bindsN fun _ _ _ _ _ _ us hl => match us, hl with | [_, _], _ => rfl,
    F_road_of := F8,
    m_road_of := He.glo_ok KX G (c.fact 7 (f := (.glo "road_of")) rfl),
    b_road_of := F8.bindsN fun _ _ _ _ _ _ us hl => match us, hl with | [_], _ => rfl,
    F_read := F9,
    m_read := He.glo_ok KX G (c.fact 8 (f := (.glo "read")) rfl),
    b_read := F9.bindsN fun _ _ _ _ _ _ us hl => match us, hl with | [_], _ => rfl,
    F_law_cell_at := F10,
    m_law_cell_at := He.glo_ok KX G (c.fact 9 (f := (.glo "_law_cell_at")) rfl),
    b_law_cell_at := F10.bindsN fun _ _ _ _ _ _ us hl => match us, hl with | [_, _], _ => rfl,
    F_law_spoilt := F11,
    m_law_spoilt := He.glo_ok KX G (c.fact 10 (f := (.glo "_law_spoilt")) rfl),
    b_law_spoilt := F11.bindsN fun _ _ _ _ _ _ us hl => match us, hl with | [_, _, _], _ => rfl,
    F_law_number := F12,
    m_law_number := He.glo_ok KX G (c.fact 11 (f := (.glo "_law_number")) rfl),
    b_law_number := F12.bindsN fun _ _ _ _ _ _ us hl => match us, hl with | [_, _, _], _ => rfl,
    F_law_text_by := F13,
    m_law_text_by := He.glo_ok KX G (c.fact 12 (f := (.glo "_law_text_by")) rfl),
    b_law_text_by := F13.bindsN fun _ _ _ _ _ _ us hl => match us, hl with | [_], _ => rfl,
    F_law_read_number := F14,
    m_law_read_number := He.glo_ok KX G (c.fact 13 (f := (.glo "_law_read_number")) rfl),
    b_law_read_number := F14.bindsN fun _ _ _ _ _ _ us hl => match us, hl with | [_], _ => rfl,
    F_law_read_row := F15,
    m_law_read_row := He.glo_ok KX G (c.fact 14 (f := (.glo "_law_read_row")) rfl),
    b_law_read_row := F15.bindsN fun _ _ _ _ _ _ us hl => match us, hl with | [_, _], _ => rfl,
    F_law_raw := F16,
    m_law_raw := He.glo_ok KX G (c.fact 15 (f := (.glo "_law_raw")) rfl),
    b_law_raw := F16.bindsN fun _ _ _ _ _ _ us hl => match us, hl with | [_], _ => rfl,
    F_law_off := F17,
    m_law_off := He.glo_ok KX G (c.fact 16 (f := (.glo "_law_off")) rfl),
    b_law_off := F17.bindsN fun _ _ _ _ _ _ us hl => match us, hl with | [_, _], _ => rfl,
    F_law_due := F18,
    m_law_due := He.glo_ok KX G (c.fact 17 (f := (.glo "_law_due")) rfl),
    b_law_due := F18.bindsN fun _ _ _ _ _ _ us hl => match us, hl with | [_], _ => rfl,
    F_law_came := F19,
    m_law_came := He.glo_ok KX G (c.fact 18 (f := (.glo "_law_came")) rfl),
    b_law_came := F19.bindsN fun _ _ _ _ _ _ us hl => match us, hl with | [_], _ => rfl,
    F_law_based := F20,
    m_law_based := He.glo_ok KX G (c.fact 19 (f := (.glo "_law_based")) rfl),
    b_law_based := F20.bindsN fun _ _ _ _ _ _ us hl => match us, hl with | [_], _ => rfl,
    F_law := F21,
    m_law := He.glo_ok KX G (c.fact 20 (f := (.glo "law")) rfl),
    b_law := F21.bindsN fun _ _ _ _ _ _ us hl => match us, hl with | [_], _ => rfl,
    m_RouteError := He.glo_ok KX G (c.fact 21 (f := (.glo "RouteError")) rfl),
    x_RouteError := (He.exc_ok (c.fact 22 (f := (.exc "RouteError")) rfl)).1,
    kp_RouteError := (He.exc_ok (c.fact 22 (f := (.exc "RouteError")) rfl)).2.1,
    sb_RouteError := (He.exc_ok (c.fact 22 (f := (.exc "RouteError")) rfl)).2.2.1,
    ty_RouteError := (He.exc_ok (c.fact 22 (f := (.exc "RouteError")) rfl)).2.2.2,
    m_BadRoad := He.glo_ok KX G (c.fact 23 (f := (.glo "BadRoad")) rfl),
    x_BadRoad := (He.exc_ok (c.fact 24 (f := (.exc "BadRoad")) rfl)).1,
    kp_BadRoad := (He.exc_ok (c.fact 24 (f := (.exc "BadRoad")) rfl)).2.1,
    sb_BadRoad := (He.exc_ok (c.fact 24 (f := (.exc "BadRoad")) rfl)).2.2.1,
    ty_BadRoad := (He.exc_ok (c.fact 24 (f := (.exc "BadRoad")) rfl)).2.2.2,
    m_OffRoad := He.glo_ok KX G (c.fact 25 (f := (.glo "OffRoad")) rfl),
    x_OffRoad := (He.exc_ok (c.fact 26 (f := (.exc "OffRoad")) rfl)).1,
    kp_OffRoad := (He.exc_ok (c.fact 26 (f := (.exc "OffRoad")) rfl)).2.1,
    sb_OffRoad := (He.exc_ok (c.fact 26 (f := (.exc "OffRoad")) rfl)).2.2.1,
    ty_OffRoad := (He.exc_ok (c.fact 26 (f := (.exc "OffRoad")) rfl)).2.2.2,
    m_BadTime := He.glo_ok KX G (c.fact 27 (f := (.glo "BadTime")) rfl),
    x_BadTime := (He.exc_ok (c.fact 28 (f := (.exc "BadTime")) rfl)).1,
    kp_BadTime := (He.exc_ok (c.fact 28 (f := (.exc "BadTime")) rfl)).2.1,
    sb_BadTime := (He.exc_ok (c.fact 28 (f := (.exc "BadTime")) rfl)).2.2.1,
    ty_BadTime := (He.exc_ok (c.fact 28 (f := (.exc "BadTime")) rfl)).2.2.2,
    m_TooMany := He.glo_ok KX G (c.fact 29 (f := (.glo "TooMany")) rfl),
    x_TooMany := (He.exc_ok (c.fact 30 (f := (.exc "TooMany")) rfl)).1,
    kp_TooMany := (He.exc_ok (c.fact 30 (f := (.exc "TooMany")) rfl)).2.1,
    sb_TooMany := (He.exc_ok (c.fact 30 (f := (.exc "TooMany")) rfl)).2.2.1,
    ty_TooMany := (He.exc_ok (c.fact 30 (f := (.exc "TooMany")) rfl)).2.2.2,
    m_NoDay := He.glo_ok KX G (c.fact 31 (f := (.glo "NoDay")) rfl),
    x_NoDay := (He.exc_ok (c.fact 32 (f := (.exc "NoDay")) rfl)).1,
    kp_NoDay := (He.exc_ok (c.fact 32 (f := (.exc "NoDay")) rfl)).2.1,
    sb_NoDay := (He.exc_ok (c.fact 32 (f := (.exc "NoDay")) rfl)).2.2.1,
    ty_NoDay := (He.exc_ok (c.fact 32 (f := (.exc "NoDay")) rfl)).2.2.2,
    m_Day := He.glo_ok KX G (c.fact 33 (f := (.glo "Day")) rfl),
    cl_Day := He.cls_ok (c.fact 34 (f := (.cls "Day")) rfl),
    k_Day := He.mkr_ok (c.fact 35 (f := (.mkr "Day")) rfl),
    na_Day_home := He.noat_ok (c.fact 36 (f := (.noat "Day" "home")) rfl),
    na_Day_road := He.noat_ok (c.fact 37 (f := (.noat "Day" "road")) rfl),
    na_Day_start := He.noat_ok (c.fact 38 (f := (.noat "Day" "start")) rfl),
    na_Day_stops := He.noat_ok (c.fact 39 (f := (.noat "Day" "stops")) rfl),
    e_OffRoad_NoDay := He.exm_ok (c.fact 40 (f := (.exm "OffRoad" "NoDay" false)) rfl),
    e_OffRoad_BadRoad := He.exm_ok (c.fact 41 (f := (.exm "OffRoad" "BadRoad" false)) rfl),
    e_OffRoad_OffRoad := He.exm_ok (c.fact 42 (f := (.exm "OffRoad" "OffRoad" true)) rfl),
    e_OffRoad_BadTime := He.exm_ok (c.fact 43 (f := (.exm "OffRoad" "BadTime" false)) rfl),
    e_OffRoad_TooMany := He.exm_ok (c.fact 44 (f := (.exm "OffRoad" "TooMany" false)) rfl),
    e_OffRoad_RouteError := He.exm_ok (c.fact 45 (f := (.exm "OffRoad" "RouteError" true)) rfl),
    e_BadTime_NoDay := He.exm_ok (c.fact 46 (f := (.exm "BadTime" "NoDay" false)) rfl),
    e_BadTime_BadRoad := He.exm_ok (c.fact 47 (f := (.exm "BadTime" "BadRoad" false)) rfl),
    e_BadTime_OffRoad := He.exm_ok (c.fact 48 (f := (.exm "BadTime" "OffRoad" false)) rfl),
    e_BadTime_BadTime := He.exm_ok (c.fact 49 (f := (.exm "BadTime" "BadTime" true)) rfl),
    e_BadTime_TooMany := He.exm_ok (c.fact 50 (f := (.exm "BadTime" "TooMany" false)) rfl),
    e_BadTime_RouteError := He.exm_ok (c.fact 51 (f := (.exm "BadTime" "RouteError" true)) rfl),
    e_BadRoad_NoDay := He.exm_ok (c.fact 52 (f := (.exm "BadRoad" "NoDay" false)) rfl),
    e_BadRoad_BadRoad := He.exm_ok (c.fact 53 (f := (.exm "BadRoad" "BadRoad" true)) rfl),
    e_BadRoad_OffRoad := He.exm_ok (c.fact 54 (f := (.exm "BadRoad" "OffRoad" false)) rfl),
    e_BadRoad_BadTime := He.exm_ok (c.fact 55 (f := (.exm "BadRoad" "BadTime" false)) rfl),
    e_BadRoad_TooMany := He.exm_ok (c.fact 56 (f := (.exm "BadRoad" "TooMany" false)) rfl),
    e_BadRoad_RouteError := He.exm_ok (c.fact 57 (f := (.exm "BadRoad" "RouteError" true)) rfl),
    e_TooMany_NoDay := He.exm_ok (c.fact 58 (f := (.exm "TooMany" "NoDay" false)) rfl),
    e_TooMany_BadRoad := He.exm_ok (c.fact 59 (f := (.exm "TooMany" "BadRoad" false)) rfl),
    e_TooMany_OffRoad := He.exm_ok (c.fact 60 (f := (.exm "TooMany" "OffRoad" false)) rfl),
    e_TooMany_BadTime := He.exm_ok (c.fact 61 (f := (.exm "TooMany" "BadTime" false)) rfl),
    e_TooMany_TooMany := He.exm_ok (c.fact 62 (f := (.exm "TooMany" "TooMany" true)) rfl),
    e_TooMany_RouteError := He.exm_ok (c.fact 63 (f := (.exm "TooMany" "RouteError" true)) rfl),
    e_NoDay_NoDay := He.exm_ok (c.fact 64 (f := (.exm "NoDay" "NoDay" true)) rfl),
    e_NoDay_BadRoad := He.exm_ok (c.fact 65 (f := (.exm "NoDay" "BadRoad" false)) rfl),
    e_NoDay_OffRoad := He.exm_ok (c.fact 66 (f := (.exm "NoDay" "OffRoad" false)) rfl),
    e_NoDay_BadTime := He.exm_ok (c.fact 67 (f := (.exm "NoDay" "BadTime" false)) rfl),
    e_NoDay_TooMany := He.exm_ok (c.fact 68 (f := (.exm "NoDay" "TooMany" false)) rfl),
    e_NoDay_RouteError := He.exm_ok (c.fact 69 (f := (.exm "NoDay" "RouteError" true)) rfl),
    c_LINE := (fun ⟨t, e⟩ => ⟨_, e, t, rfl⟩) (He.str_ok KX G (c.fact 70 (f := (.str "LINE" "line")) rfl)),
    c_RING := (fun ⟨t, e⟩ => ⟨_, e, t, rfl⟩) (He.str_ok KX G (c.fact 71 (f := (.str "RING" "ring")) rfl)),
    c_LONGEST := (fun ⟨t, e⟩ => ⟨_, e, t, rfl⟩) (He.int_ok KX G (c.fact 72 (f := (.int "LONGEST" 1000000000)) rfl)),
    c_LATEST := (fun ⟨t, e⟩ => ⟨_, e, t, rfl⟩) (He.int_ok KX G (c.fact 73 (f := (.int "LATEST" 1000000000000)) rfl)),
    c_MOST_STOPS := (fun ⟨t, e⟩ => ⟨_, e, t, rfl⟩) (He.int_ok KX G (c.fact 74 (f := (.int "MOST_STOPS" 7)) rfl)),
    c_FIGURES := (fun ⟨t, e⟩ => ⟨_, e, t, rfl⟩) (He.str_ok KX G (c.fact 75 (f := (.str "FIGURES" "0123456789")) rfl)),
    c_MOST_FIGURES := (fun ⟨t, e⟩ => ⟨_, e, t, rfl⟩) (He.int_ok KX G (c.fact 76 (f := (.int "MOST_FIGURES" 15)) rfl)),
    m_HOME_WORDS := He.glo_ok KX G (c.fact 77 (f := (.glo "HOME_WORDS")) rfl),
    m_STOP_WORDS := He.glo_ok KX G (c.fact 78 (f := (.glo "STOP_WORDS")) rfl),
    m_int := He.free_ok KX G (c.fact 79 (f := (.free "int")) rfl),
    m_str := He.free_ok KX G (c.fact 80 (f := (.free "str")) rfl),
    m_range := He.free_ok KX G (c.fact 81 (f := (.free "range")) rfl),
    m_len := He.free_ok KX G (c.fact 82 (f := (.free "len")) rfl),
    m_list := He.free_ok KX G (c.fact 83 (f := (.free "list")) rfl),
    m_tuple := He.free_ok KX G (c.fact 84 (f := (.free "tuple")) rfl),
    m_isinstance := He.free_ok KX G (c.fact 85 (f := (.free "isinstance")) rfl),
    m_max := He.free_ok KX G (c.fact 86 (f := (.free "max")) rfl),
    m_ValueError := He.free_ok KX G (c.fact 87 (f := (.free "ValueError")) rfl),
    ec_OffRoad := excCB_ok (exAt hx 0 rfl),
    ec_BadTime := excCB_ok (exAt hx 1 rfl),
    ec_BadRoad := excCB_ok (exAt hx 2 rfl),
    ec_TooMany := excCB_ok (exAt hx 3 rfl),
    ec_NoDay := excCB_ok (exAt hx 4 rfl),
    t_HOME_WORDS := tupCB_ok (exAt hx 5 rfl),
    t_STOP_WORDS := tupCB_ok (exAt hx 6 rfl),
    is_OffRoad_Day := of_decide_eq_true (exAt hx 7 rfl),
    is_OffRoad_BadRoad := of_decide_eq_true (exAt hx 8 rfl),
    is_OffRoad_OffRoad := of_decide_eq_true (exAt hx 9 rfl),
    is_OffRoad_BadTime := of_decide_eq_true (exAt hx 10 rfl),
    is_OffRoad_ValueError := of_decide_eq_true (exAt hx 11 rfl),
    is_OffRoad_TooMany := of_decide_eq_true (exAt hx 12 rfl),
    is_OffRoad_NoDay := of_decide_eq_true (exAt hx 13 rfl),
    is_BadTime_Day := of_decide_eq_true (exAt hx 14 rfl),
    is_BadTime_BadRoad := of_decide_eq_true (exAt hx 15 rfl),
    is_BadTime_OffRoad := of_decide_eq_true (exAt hx 16 rfl),
    is_BadTime_BadTime := of_decide_eq_true (exAt hx 17 rfl),
    is_BadTime_ValueError := of_decide_eq_true (exAt hx 18 rfl),
    is_BadTime_TooMany := of_decide_eq_true (exAt hx 19 rfl),
    is_BadTime_NoDay := of_decide_eq_true (exAt hx 20 rfl),
    is_BadRoad_Day := of_decide_eq_true (exAt hx 21 rfl),
    is_BadRoad_BadRoad := of_decide_eq_true (exAt hx 22 rfl),
    is_BadRoad_OffRoad := of_decide_eq_true (exAt hx 23 rfl),
    is_BadRoad_BadTime := of_decide_eq_true (exAt hx 24 rfl),
    is_BadRoad_ValueError := of_decide_eq_true (exAt hx 25 rfl),
    is_BadRoad_TooMany := of_decide_eq_true (exAt hx 26 rfl),
    is_BadRoad_NoDay := of_decide_eq_true (exAt hx 27 rfl),
    is_TooMany_Day := of_decide_eq_true (exAt hx 28 rfl),
    is_TooMany_BadRoad := of_decide_eq_true (exAt hx 29 rfl),
    is_TooMany_OffRoad := of_decide_eq_true (exAt hx 30 rfl),
    is_TooMany_BadTime := of_decide_eq_true (exAt hx 31 rfl),
    is_TooMany_ValueError := of_decide_eq_true (exAt hx 32 rfl),
    is_TooMany_TooMany := of_decide_eq_true (exAt hx 33 rfl),
    is_TooMany_NoDay := of_decide_eq_true (exAt hx 34 rfl),
    is_NoDay_Day := of_decide_eq_true (exAt hx 35 rfl),
    is_NoDay_BadRoad := of_decide_eq_true (exAt hx 36 rfl),
    is_NoDay_OffRoad := of_decide_eq_true (exAt hx 37 rfl),
    is_NoDay_BadTime := of_decide_eq_true (exAt hx 38 rfl),
    is_NoDay_ValueError := of_decide_eq_true (exAt hx 39 rfl),
    is_NoDay_TooMany := of_decide_eq_true (exAt hx 40 rfl),
    is_NoDay_NoDay := of_decide_eq_true (exAt hx 41 rfl),
    iy_Day := insCB_ok (exAt hx 42 rfl),
    iz_Day := of_decide_eq_true (exAt hx 43 rfl),
    iz_str_Day := of_decide_eq_true (exAt hx 44 rfl),
    iz_NoneType_Day := of_decide_eq_true (exAt hx 45 rfl),
    iz_bool_Day := of_decide_eq_true (exAt hx 46 rfl),
    iz_int_Day := of_decide_eq_true (exAt hx 47 rfl)
  }
  have e := hfa.symm.trans T.m_law
  cases e
  have b := FunD.bindsA (ps := ["_law_script"]) F21 fun _ _ _ _ _ _ us hl => match us, hl with | [_], _ => rfl
  exact ⟨fd21, fun s v => b s [v] rfl, fun base _ _ => ok_law T⟩
end RV
open PySem PySem.W PySem.Calls PyProof.Rows
set_option maxRecDepth 100000 in
set_option maxHeartbeats 0 in
theorem PySem.Challenge.cw_routevan_k13_texts_refused_holds : PySem.Challenge.rw_routevan_k13_texts_refused.Holds := by
  w_on; o_law
  refine HandSHeadRun.head_any (r := OpenLaw.row PySem.Challenge.rw_routevan_k13_texts_refused) (q := view (OpenLaw.row PySem.Challenge.rw_routevan_k13_texts_refused).prog [41]) (H := RV.hk) (ob := RV.ob) (M := 6000) (loose := RV.names) (d := HandSHeadRun.topDef (OpenLaw.row PySem.Challenge.rw_routevan_k13_texts_refused).prog 41) (kwd := []) RV.ob_eq
    (by kernel_rfl) (fun s => by kernel_rfl) RV.run (by kernel_rfl) (by kernel_rfl) (by kernel_rfl) (by rfl) (by first | assumption | decide +kernel) (by decide +kernel) ⟨rfl, rfl, rfl, rfl, rfl, by decide +kernel⟩ ?hw ?hc
  case hw => w_witness2
  case hc =>
    refine L2.walk_ofE (l := PySem.Challenge.rw_routevan_k13_texts_refused) (n := 63) (k := 8) (x := "_law_script") (CX := L2.CX0) rfl (by decide) (by kernel_rfl) ⟨rfl, by decide, by decide⟩ ?F (fun _ _ _ _ z => z)
    intro w mg fa h Y G hmg0
    obtain ⟨K, KX, c⟩ := Y
    have hmg : mg ("law" : PySem.Str) = some (.ref fa) := by
      have e : (HandSHeadRun.topDef (OpenLaw.row PySem.Challenge.rw_routevan_k13_texts_refused).prog 41).name = ("law" : PySem.Str) := by kernel_rfl
      rw [← e]
      exact hmg0
    obtain ⟨fd, hb, hF⟩ := RV.facts (P := (PySem.Challenge.rw_routevan_k13_texts_refused).prog) (w := w) KX G hmg c.t.d c.more
    exact ⟨K, fd, RV.sp_law K, KX, hb, fun H a ns hl _ hS => ⟨a, ns, rfl, hS, hl, fun _ => rfl⟩, hF⟩

