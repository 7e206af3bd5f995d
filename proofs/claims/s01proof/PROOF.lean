import PyProof.Rows.All
import Wide.All
import OpenK.AllK
import Wide.FinOn
import Open.SpecLaws
import KE.OsGo
import KE.DataFind
import KE.GoesZip
import KE.GoesMore
import HandS.ForMost
import HandS.ForSpec
import HandS.Walk
import HandS.Deep
import HandS.FStr
import HandS.StrMore
import HandS.SetFor
import PySem.Challenge.RW_calendartext_s01_answers
set_option Elab.async false
set_option linter.all false
set_option maxRecDepth 100000
set_option maxHeartbeats 4000000
/-! Rules that the layer lacks: constants of the module, a written dict with int keys, list.remove of data. -/
namespace Ct
open PySem PySem.Spec PyProof.Rows L2
section
variable {X : Cx}
theorem pe_gi {x : Str} {n : Int} {pos : Pos} (h : ∃ t, X.mg x = some (.int n t)) (hg : Gl X x := by rfl) (hd : (x == ("__debug__" : Str)) = false := by decide) : PE X (.Name x pos) (tC (.int n)) := by
  obtain ⟨t, h⟩ := h
  exact pe_glob hg h ⟨t, rfl⟩ hd
theorem pe_gs {x z : Str} {pos : Pos} (h : ∃ t, X.mg x = some (.str z t)) (hg : Gl X x := by rfl) (hd : (x == ("__debug__" : Str)) = false := by decide) : PE X (.Name x pos) (tC (.str z)) := by
  obtain ⟨t, h⟩ := h
  exact pe_glob hg h ⟨t, rfl⟩ hd
theorem pe_gr {x : Str} {a : Addr} {pos : Pos} (h : X.mg x = some (.ref a)) (hg : Gl X x := by rfl) (hd : (x == ("__debug__" : Str)) = false := by decide) : PE X (.Name x pos) (tC (.ref a)) := pe_glob hg h rfl hd
end
theorem hu65 {A : Around} {k : Nat} (hr : Room k A) : A.units + 65 < cLine := by
  have := hr.un
  omega
/-! ### a written dict with int keys -/
def EntsAre : List DictEntry → List (Int × Int) → Prop
  | [], [] => True
  | e :: r, kv :: s => (∃ t, e.key = .int kv.1 t) ∧ e.hash = hashInt kv.1 ∧ (∃ t, e.val = .int kv.2 t) ∧ EntsAre r s
  | _, _ => False
structure KI (K : PySem.W.Frag) (d : Addr) (kvs : List (Int × Int)) : Prop where
  ex : ∃ (es : List DictEntry) (n : Nat), K.lookup d = some ⟨.type "dict", none, .dict es.toArray n, #[]⟩ ∧ EntsAre es kvs
  low : (d == sysModules) = false
def kiAt (kvs : List (Int × Int)) (k : Int) : Option Int := (kvs.find? fun kv => decide (kv.1 = k)).map (·.2)
theorem ents_keys {P : Program} {w : World} : ∀ {es : List DictEntry} {kvs : List (Int × Int)}, EntsAre es kvs → ∀ e ∈ es, ∃ k, (intKind P w).is k e.key = true ∧ e.hash = (intKind P w).hash k
  | [], [], _, e, he => by cases he
  | a :: r, kv :: s, ⟨⟨t, h1⟩, h2, _, h4⟩, e, he => by
    rcases List.mem_cons.mp he with rfl | he
    · exact ⟨kv.1, by rw [h1]; simp [intKind, Value.isInt], h2⟩
    · exact ents_keys h4 e he
  | [], _ :: _, h, _, _ => h.elim
  | _ :: _, [], h, _, _ => h.elim
theorem ents_find : ∀ {es : List DictEntry} {kvs : List (Int × Int)}, EntsAre es kvs → ∀ k : Int, match kiAt kvs k with
    | some v => ∃ t, (es.find? fun e => Value.isInt k e.key).map (·.val) = some (.int v t)
    | none => (es.find? fun e => Value.isInt k e.key).map (·.val) = none
  | [], [], _, k => rfl
  | a :: r, kv :: s, ⟨⟨t, h1⟩, h2, ⟨u, h3⟩, h4⟩, k => by
    have ih := ents_find h4 k
    unfold kiAt at ih ⊢
    rw [List.find?_cons, List.find?_cons, h1]
    by_cases c : kv.1 = k
    · have c2 : Value.isInt k (.int kv.1 t) = true := by rw [c]; simp [Value.isInt]
      rw [decide_eq_true c, c2]
      exact ⟨u, by simp [h3]⟩
    · have c2 : Value.isInt k (.int kv.1 t) = false := by simp [Value.isInt, c]
      rw [decide_eq_false c, c2]
      exact ih
  | [], _ :: _, h, _ => h.elim
  | _ :: _, [], h, _ => h.elim
section
variable {X : Cx} {d : Addr} {kvs : List (Int × Int)}
theorem ki_map {pins : List (Addr × Obj)} {σ : L2.St} {H : Hp} {s : Shared} (D : KI X.K d kvs) (I : Inv X pins σ H s) :
    ∃ f : Int → Option Value, s.heap.MapOf (intKind X.prog X.w) d f ∧ ∀ k : Int, match kiAt kvs k with | some v => ∃ t, f k = some (.int v t) | none => f k = none := by
  obtain ⟨es, n, hl, he⟩ := D.ex
  refine ⟨fun k => findBy (intKind X.prog X.w).is es.toArray k, ⟨_, es.toArray, n, I.kIn _ _ hl, ⟨rfl, rfl, rfl⟩, rfl, fun e h => ents_keys he e (by simpa using h), fun _ => rfl⟩, fun k => ?_⟩
  have q := ents_find he k
  have e2 : findBy (intKind X.prog X.w).is es.toArray k = (es.find? fun e => Value.isInt k e.key).map (·.val) := by
    unfold findBy
    rw [List.find?_toArray]
    rfl
  rw [← e2] at q
  exact q
def rKiIn (d : Addr) (kvs : List (Int × Int)) (neg : Bool) : R2 := fun x y H Q => ∃ k : Int, x = .int k ∧ y = .ref d ∧ Q (.bl (if neg then !(kiAt kvs k).isSome else (kiAt kvs k).isSome)) H
theorem op_in_ki (D : KI X.K d kvs) : OpR X (compareOp .In) (rKiIn d kvs false) := by
  intro pins s σ H x y v u Q I rx ry h
  obtain ⟨k, rfl, rfl, q⟩ := h
  obtain ⟨t, rfl⟩ := rx
  cases ry
  obtain ⟨f, m, hf⟩ := ki_map D I
  refine wpAny_in_of (k := k) (show (intKind X.prog X.w).is k (.int k t) = true by simp [intKind, Value.isInt]) D.low m ?_
  have e : (f k).isSome = (kiAt kvs k).isSome := by
    have := hf k
    revert this
    cases kiAt kvs k with
    | none => intro h; rw [h]; rfl
    | some v => rintro ⟨t, h⟩; rw [h]; rfl
  rw [e]
  exact ⟨.bl (kiAt kvs k).isSome, H, I.tok _, rfl, q⟩
theorem op_notIn_ki (D : KI X.K d kvs) : OpR X (compareOp .NotIn) (rKiIn d kvs true) := by
  intro pins s σ H x y v u Q I rx ry h
  obtain ⟨k, rfl, rfl, q⟩ := h
  obtain ⟨t, rfl⟩ := rx
  cases ry
  obtain ⟨f, m, hf⟩ := ki_map D I
  refine wpAny_notIn_of (k := k) (show (intKind X.prog X.w).is k (.int k t) = true by simp [intKind, Value.isInt]) D.low m ?_
  have e : (f k).isSome = (kiAt kvs k).isSome := by
    have := hf k
    revert this
    cases kiAt kvs k with
    | none => intro h; rw [h]; rfl
    | some v => rintro ⟨t, h⟩; rw [h]; rfl
  rw [e]
  exact ⟨.bl (!(kiAt kvs k).isSome), H, I.tok _, rfl, q⟩
def rKiIx (d : Addr) (kvs : List (Int × Int)) : R2 := fun x y H Q => ∃ k v : Int, x = .ref d ∧ y = .int k ∧ kiAt kvs k = some v ∧ Q (.int v) H
theorem ix_ki (D : KI X.K d kvs) : IxR X (rKiIx d kvs) := by
  intro value slice pins s σ H x y v u Q I rx ry h hs
  obtain ⟨k, n, rfl, rfl, e, q⟩ := h
  obtain rfl : v = Value.ref d := rx
  obtain ⟨t, rfl⟩ := ry
  obtain ⟨f, m, hf⟩ := ki_map D I
  have g := hf k
  rw [e] at g
  obtain ⟨t2, g⟩ := g
  exact tail_any m.typeIs slot_dict_getitem.lookup (wpAny_getItem_of (k := k) (show (intKind X.prog X.w).is k (.int k t) = true by simp [intKind, Value.isInt]) m g ⟨.int n, H, I.tok _, ⟨_, rfl⟩, q⟩) hs
end
end Ct

set_option Elab.async false
set_option linter.all false
set_option maxRecDepth 100000
set_option maxHeartbeats 4000000
/-! The text by places, and what the top has written. -/
namespace Ct
open PySem PySem.Spec PyProof.Rows L2
def topS (i : Nat) : Stmt := PySem.Challenge.pw_calendartext_s01_answers.main.body.getD i (.Pass ⟨0, 0, 0, 0⟩)
abbrev s_row_of : Stmt := topS 8
theorem sc_row_of : FnScope ["text", "sign"] ["text"] (defScope s_row_of) := ⟨rfl, rfl, rfl, by decide +kernel, rfl, by decide +kernel, by decide +kernel⟩
abbrev s_counted : Stmt := topS 9
theorem sc_counted : FnScope ["row"] ["row"] (defScope s_counted) := ⟨rfl, rfl, rfl, by decide +kernel, rfl, by decide +kernel, by decide +kernel⟩
abbrev s_split_row : Stmt := topS 10
theorem sc_split_row : FnScope ["row", "mark", "pieces", "piece", "byte"] ["row", "mark"] (defScope s_split_row) := ⟨rfl, rfl, rfl, by decide +kernel, rfl, by decide +kernel, by decide +kernel⟩
abbrev s_is_small_letter : Stmt := topS 11
theorem sc_is_small_letter : FnScope ["byte"] ["byte"] (defScope s_is_small_letter) := ⟨rfl, rfl, rfl, by decide +kernel, rfl, by decide +kernel, by decide +kernel⟩
abbrev s_is_digit : Stmt := topS 12
theorem sc_is_digit : FnScope ["byte"] ["byte"] (defScope s_is_digit) := ⟨rfl, rfl, rfl, by decide +kernel, rfl, by decide +kernel, by decide +kernel⟩
abbrev s_number_of : Stmt := topS 13
theorem sc_number_of : FnScope ["digits", "number", "digit"] ["digits"] (defScope s_number_of) := ⟨rfl, rfl, rfl, by decide +kernel, rfl, by decide +kernel, by decide +kernel⟩
abbrev s_put_together : Stmt := topS 19
theorem sc_put_together : FnScope ["text", "joined", "place"] ["text"] (defScope s_put_together) := ⟨rfl, rfl, rfl, by decide +kernel, rfl, by decide +kernel, by decide +kernel⟩
abbrev s_is_ended : Stmt := topS 20
theorem sc_is_ended : FnScope ["joined"] ["joined"] (defScope s_is_ended) := ⟨rfl, rfl, rfl, by decide +kernel, rfl, by decide +kernel, by decide +kernel⟩
abbrev s_lines_of : Stmt := topS 21
theorem sc_lines_of : FnScope ["joined", "lines"] ["joined"] (defScope s_lines_of) := ⟨rfl, rfl, rfl, by decide +kernel, rfl, by decide +kernel, by decide +kernel⟩
abbrev s_cut_line : Stmt := topS 22
theorem sc_cut_line : FnScope ["line", "cut", "start"] ["line"] (defScope s_cut_line) := ⟨rfl, rfl, rfl, by decide +kernel, rfl, by decide +kernel, by decide +kernel⟩
abbrev s_may_stand_in_line_name : Stmt := topS 23
theorem sc_may_stand_in_line_name : FnScope ["byte"] ["byte"] (defScope s_may_stand_in_line_name) := ⟨rfl, rfl, rfl, by decide +kernel, rfl, by decide +kernel, by decide +kernel⟩
abbrev s_name_size : Stmt := topS 24
theorem sc_name_size : FnScope ["line", "size"] ["line"] (defScope s_name_size) := ⟨rfl, rfl, rfl, by decide +kernel, rfl, by decide +kernel, by decide +kernel⟩
abbrev s_is_other_name : Stmt := topS 25
theorem sc_is_other_name : FnScope ["name", "byte"] ["name"] (defScope s_is_other_name) := ⟨rfl, rfl, rfl, by decide +kernel, rfl, by decide +kernel, by decide +kernel⟩
abbrev s_Date_init : Stmt := inClass (topS 32) 0
theorem sc_Date_init : FnScope ["self"] ["self"] (defScope s_Date_init) := ⟨rfl, rfl, rfl, by decide +kernel, rfl, by decide +kernel, by decide +kernel⟩
abbrev s_Calendar_init : Stmt := inClass (topS 33) 0
theorem sc_Calendar_init : FnScope ["self"] ["self"] (defScope s_Calendar_init) := ⟨rfl, rfl, rfl, by decide +kernel, rfl, by decide +kernel, by decide +kernel⟩
abbrev s_days_of_year : Stmt := topS 40
theorem sc_days_of_year : FnScope ["year"] ["year"] (defScope s_days_of_year) := ⟨rfl, rfl, rfl, by decide +kernel, rfl, by decide +kernel, by decide +kernel⟩
abbrev s_days_of_month : Stmt := topS 41
theorem sc_days_of_month : FnScope ["year", "month"] ["year", "month"] (defScope s_days_of_month) := ⟨rfl, rfl, rfl, by decide +kernel, rfl, by decide +kernel, by decide +kernel⟩
abbrev s_is_day : Stmt := topS 42
theorem sc_is_day : FnScope ["year", "month", "day"] ["year", "month", "day"] (defScope s_is_day) := ⟨rfl, rfl, rfl, by decide +kernel, rfl, by decide +kernel, by decide +kernel⟩
abbrev s_is_minute : Stmt := topS 43
theorem sc_is_minute : FnScope ["minute"] ["minute"] (defScope s_is_minute) := ⟨rfl, rfl, rfl, by decide +kernel, rfl, by decide +kernel, by decide +kernel⟩
abbrev s_day_number : Stmt := topS 44
theorem sc_day_number : FnScope ["year", "month", "day", "before_year", "before_month", "past"] ["year", "month", "day"] (defScope s_day_number) := ⟨rfl, rfl, rfl, by decide +kernel, rfl, by decide +kernel, by decide +kernel⟩
abbrev s_day_parts : Stmt := topS 45
theorem sc_day_parts : FnScope ["number", "year", "left", "month"] ["number"] (defScope s_day_parts) := ⟨rfl, rfl, rfl, by decide +kernel, rfl, by decide +kernel, by decide +kernel⟩
abbrev s_two_digits : Stmt := topS 46
theorem sc_two_digits : FnScope ["number"] ["number"] (defScope s_two_digits) := ⟨rfl, rfl, rfl, by decide +kernel, rfl, by decide +kernel, by decide +kernel⟩
abbrev s_tell_time : Stmt := topS 47
theorem sc_tell_time : FnScope ["day", "minute", "parts", "year", "month", "month_day", "hour", "rest"] ["day", "minute"] (defScope s_tell_time) := ⟨rfl, rfl, rfl, by decide +kernel, rfl, by decide +kernel, by decide +kernel⟩
abbrev s_has_time_form : Stmt := topS 48
theorem sc_has_time_form : FnScope ["value", "sign", "byte"] ["value"] (defScope s_has_time_form) := ⟨rfl, rfl, rfl, by decide +kernel, rfl, by decide +kernel, by decide +kernel⟩
abbrev s_read_time : Stmt := topS 49
theorem sc_read_time : FnScope ["value", "year", "month", "day", "hour", "minute"] ["value"] (defScope s_read_time) := ⟨rfl, rfl, rfl, by decide +kernel, rfl, by decide +kernel, by decide +kernel⟩
abbrev s_may_stand_in_name : Stmt := topS 56
theorem sc_may_stand_in_name : FnScope ["byte"] ["byte"] (defScope s_may_stand_in_name) := ⟨rfl, rfl, rfl, by decide +kernel, rfl, by decide +kernel, by decide +kernel⟩
abbrev s_is_name : Stmt := topS 57
theorem sc_is_name : FnScope ["row", "byte"] ["row"] (defScope s_is_name) := ⟨rfl, rfl, rfl, by decide +kernel, rfl, by decide +kernel, by decide +kernel⟩
abbrev s_tell_name : Stmt := topS 58
theorem sc_tell_name : FnScope ["name", "told", "byte"] ["name"] (defScope s_tell_name) := ⟨rfl, rfl, rfl, by decide +kernel, rfl, by decide +kernel, by decide +kernel⟩
abbrev s_read_name : Stmt := topS 59
theorem sc_read_name : FnScope ["value", "meant", "place", "byte"] ["value"] (defScope s_read_name) := ⟨rfl, rfl, rfl, by decide +kernel, rfl, by decide +kernel, by decide +kernel⟩
abbrev s_read_number : Stmt := topS 60
theorem sc_read_number : FnScope ["value", "byte"] ["value"] (defScope s_read_number) := ⟨rfl, rfl, rfl, by decide +kernel, rfl, by decide +kernel, by decide +kernel⟩
abbrev s_is_tag : Stmt := topS 61
theorem sc_is_tag : FnScope ["row", "byte"] ["row"] (defScope s_is_tag) := ⟨rfl, rfl, rfl, by decide +kernel, rfl, by decide +kernel, by decide +kernel⟩
abbrev s_read_tags : Stmt := topS 62
theorem sc_read_tags : FnScope ["value", "tags", "tag"] ["value"] (defScope s_read_tags) := ⟨rfl, rfl, rfl, by decide +kernel, rfl, by decide +kernel, by decide +kernel⟩
abbrev s_Reading_init : Stmt := inClass (topS 71) 0
theorem sc_Reading_init : FnScope ["self"] ["self"] (defScope s_Reading_init) := ⟨rfl, rfl, rfl, by decide +kernel, rfl, by decide +kernel, by decide +kernel⟩
abbrev s_told_fault : Stmt := topS 72
theorem sc_told_fault : FnScope ["line_number", "kind"] ["line_number", "kind"] (defScope s_told_fault) := ⟨rfl, rfl, rfl, by decide +kernel, rfl, by decide +kernel, by decide +kernel⟩
abbrev s_read_title : Stmt := topS 73
theorem sc_read_title : FnScope ["calendar", "value", "meant"] ["calendar", "value"] (defScope s_read_title) := ⟨rfl, rfl, rfl, by decide +kernel, rfl, by decide +kernel, by decide +kernel⟩
abbrev s_read_begin : Stmt := topS 74
theorem sc_read_begin : FnScope ["reading", "value"] ["reading", "value"] (defScope s_read_begin) := ⟨rfl, rfl, rfl, by decide +kernel, rfl, by decide +kernel, by decide +kernel⟩
abbrev s_read_end : Stmt := topS 75
theorem sc_read_end : FnScope ["reading", "date", "value"] ["reading", "date", "value"] (defScope s_read_end) := ⟨rfl, rfl, rfl, by decide +kernel, rfl, by decide +kernel, by decide +kernel⟩
abbrev s_read_date_name : Stmt := topS 76
theorem sc_read_date_name : FnScope ["date", "value", "meant"] ["date", "value"] (defScope s_read_date_name) := ⟨rfl, rfl, rfl, by decide +kernel, rfl, by decide +kernel, by decide +kernel⟩
abbrev s_read_at : Stmt := topS 77
theorem sc_read_at : FnScope ["date", "value", "minutes"] ["date", "value"] (defScope s_read_at) := ⟨rfl, rfl, rfl, by decide +kernel, rfl, by decide +kernel, by decide +kernel⟩
abbrev s_read_long : Stmt := topS 78
theorem sc_read_long : FnScope ["date", "value", "length"] ["date", "value"] (defScope s_read_long) := ⟨rfl, rfl, rfl, by decide +kernel, rfl, by decide +kernel, by decide +kernel⟩
abbrev s_read_ring : Stmt := topS 79
theorem sc_read_ring : FnScope ["date", "value", "number"] ["date", "value"] (defScope s_read_ring) := ⟨rfl, rfl, rfl, by decide +kernel, rfl, by decide +kernel, by decide +kernel⟩
abbrev s_has_one_twice : Stmt := topS 80
theorem sc_has_one_twice : FnScope ["tags", "place", "tag"] ["tags"] (defScope s_has_one_twice) := ⟨rfl, rfl, rfl, by decide +kernel, rfl, by decide +kernel, by decide +kernel⟩
abbrev s_read_tag : Stmt := topS 81
theorem sc_read_tag : FnScope ["date", "value", "tags", "together"] ["date", "value"] (defScope s_read_tag) := ⟨rfl, rfl, rfl, by decide +kernel, rfl, by decide +kernel, by decide +kernel⟩
abbrev s_read_other : Stmt := topS 82
theorem sc_read_other : FnScope ["date", "name", "value"] ["date", "name", "value"] (defScope s_read_other) := ⟨rfl, rfl, rfl, by decide +kernel, rfl, by decide +kernel, by decide +kernel⟩
abbrev s_read_outside : Stmt := topS 83
theorem sc_read_outside : FnScope ["reading", "name", "value"] ["reading", "name", "value"] (defScope s_read_outside) := ⟨rfl, rfl, rfl, by decide +kernel, rfl, by decide +kernel, by decide +kernel⟩
abbrev s_read_within : Stmt := topS 84
theorem sc_read_within : FnScope ["reading", "name", "value", "date"] ["reading", "name", "value"] (defScope s_read_within) := ⟨rfl, rfl, rfl, by decide +kernel, rfl, by decide +kernel, by decide +kernel⟩
abbrev s_read_line : Stmt := topS 85
theorem sc_read_line : FnScope ["reading", "line", "size", "name", "value"] ["reading", "line"] (defScope s_read_line) := ⟨rfl, rfl, rfl, by decide +kernel, rfl, by decide +kernel, by decide +kernel⟩
abbrev s_read_lines : Stmt := topS 86
theorem sc_read_lines : FnScope ["reading", "lines", "number", "line", "kind"] ["reading", "lines"] (defScope s_read_lines) := ⟨rfl, rfl, rfl, by decide +kernel, rfl, by decide +kernel, by decide +kernel⟩
abbrev s_read : Stmt := topS 87
theorem sc_read : FnScope ["text", "reading", "joined", "lines"] ["text"] (defScope s_read) := ⟨rfl, rfl, rfl, by decide +kernel, rfl, by decide +kernel, by decide +kernel⟩
abbrev s_date_numbers : Stmt := topS 92
theorem sc_date_numbers : FnScope ["date", "numbers", "tag", "other"] ["date"] (defScope s_date_numbers) := ⟨rfl, rfl, rfl, by decide +kernel, rfl, by decide +kernel, by decide +kernel⟩
abbrev s_dates_with_tag : Stmt := topS 93
theorem sc_dates_with_tag : FnScope ["calendar", "given", "number", "date"] ["calendar", "given"] (defScope s_dates_with_tag) := ⟨rfl, rfl, rfl, by decide +kernel, rfl, by decide +kernel, by decide +kernel⟩
abbrev s_has_the_same : Stmt := topS 94
theorem sc_has_the_same : FnScope ["calendar", "another", "date"] ["calendar", "another"] (defScope s_has_the_same) := ⟨rfl, rfl, rfl, by decide +kernel, rfl, by decide +kernel, by decide +kernel⟩
abbrev s_compare : Stmt := topS 95
theorem sc_compare : FnScope ["calendar", "text", "reading"] ["calendar", "text"] (defScope s_compare) := ⟨rfl, rfl, rfl, by decide +kernel, rfl, by decide +kernel, by decide +kernel⟩
abbrev s_cut_given : Stmt := topS 96
theorem sc_cut_given : FnScope ["line"] ["line"] (defScope s_cut_given) := ⟨rfl, rfl, rfl, by decide +kernel, rfl, by decide +kernel, by decide +kernel⟩
abbrev s_load : Stmt := topS 99
theorem sc_load : FnScope ["calendar", "text", "reading"] ["calendar", "text"] (defScope s_load) := ⟨rfl, rfl, rfl, by decide +kernel, rfl, by decide +kernel, by decide +kernel⟩
abbrev s_add_date : Stmt := topS 100
theorem sc_add_date : FnScope ["calendar", "year", "month", "day", "minute", "date"] ["calendar", "year", "month", "day", "minute"] (defScope s_add_date) := ⟨rfl, rfl, rfl, by decide +kernel, rfl, by decide +kernel, by decide +kernel⟩
abbrev s_drop_date : Stmt := topS 101
theorem sc_drop_date : FnScope ["calendar", "which"] ["calendar", "which"] (defScope s_drop_date) := ⟨rfl, rfl, rfl, by decide +kernel, rfl, by decide +kernel, by decide +kernel⟩
abbrev s_set_title : Stmt := topS 102
theorem sc_set_title : FnScope ["calendar", "given", "had"] ["calendar", "given"] (defScope s_set_title) := ⟨rfl, rfl, rfl, by decide +kernel, rfl, by decide +kernel, by decide +kernel⟩
abbrev s_set_name : Stmt := topS 103
theorem sc_set_name : FnScope ["date", "given", "had"] ["date", "given"] (defScope s_set_name) := ⟨rfl, rfl, rfl, by decide +kernel, rfl, by decide +kernel, by decide +kernel⟩
abbrev s_set_length : Stmt := topS 104
theorem sc_set_length : FnScope ["date", "length", "had"] ["date", "length"] (defScope s_set_length) := ⟨rfl, rfl, rfl, by decide +kernel, rfl, by decide +kernel, by decide +kernel⟩
abbrev s_switch_ring : Stmt := topS 105
theorem sc_switch_ring : FnScope ["date", "number"] ["date", "number"] (defScope s_switch_ring) := ⟨rfl, rfl, rfl, by decide +kernel, rfl, by decide +kernel, by decide +kernel⟩
abbrev s_switch_tag : Stmt := topS 106
theorem sc_switch_tag : FnScope ["date", "given"] ["date", "given"] (defScope s_switch_tag) := ⟨rfl, rfl, rfl, by decide +kernel, rfl, by decide +kernel, by decide +kernel⟩
abbrev s_add_other : Stmt := topS 107
theorem sc_add_other : FnScope ["date", "known_as", "value"] ["date", "known_as", "value"] (defScope s_add_other) := ⟨rfl, rfl, rfl, by decide +kernel, rfl, by decide +kernel, by decide +kernel⟩
abbrev s_line_of : Stmt := topS 109
theorem sc_line_of : FnScope ["word", "value"] ["word", "value"] (defScope s_line_of) := ⟨rfl, rfl, rfl, by decide +kernel, rfl, by decide +kernel, by decide +kernel⟩
abbrev s_tell_tags : Stmt := topS 110
theorem sc_tell_tags : FnScope ["tags", "told", "tag"] ["tags"] (defScope s_tell_tags) := ⟨rfl, rfl, rfl, by decide +kernel, rfl, by decide +kernel, by decide +kernel⟩
abbrev s_date_lines : Stmt := topS 111
theorem sc_date_lines : FnScope ["date", "lines", "ring", "other"] ["date"] (defScope s_date_lines) := ⟨rfl, rfl, rfl, by decide +kernel, rfl, by decide +kernel, by decide +kernel⟩
abbrev s_calendar_lines : Stmt := topS 112
theorem sc_calendar_lines : FnScope ["calendar", "lines", "date"] ["calendar"] (defScope s_calendar_lines) := ⟨rfl, rfl, rfl, by decide +kernel, rfl, by decide +kernel, by decide +kernel⟩
abbrev s_tell : Stmt := topS 113
theorem sc_tell : FnScope ["calendar", "told", "line"] ["calendar"] (defScope s_tell) := ⟨rfl, rfl, rfl, by decide +kernel, rfl, by decide +kernel, by decide +kernel⟩
abbrev s_answer_about_date : Stmt := topS 130
theorem sc_answer_about_date : FnScope ["calendar", "call", "numbers", "rows", "which", "date"] ["calendar", "call", "numbers", "rows"] (defScope s_answer_about_date) := ⟨rfl, rfl, rfl, by decide +kernel, rfl, by decide +kernel, by decide +kernel⟩
abbrev s_answer_about_row : Stmt := topS 131
theorem sc_answer_about_row : FnScope ["calendar", "call", "row"] ["calendar", "call", "row"] (defScope s_answer_about_row) := ⟨rfl, rfl, rfl, by decide +kernel, rfl, by decide +kernel, by decide +kernel⟩
abbrev s_answer : Stmt := topS 132
theorem sc_answer : FnScope ["calendar", "call", "numbers", "rows"] ["calendar", "call", "numbers", "rows"] (defScope s_answer) := ⟨rfl, rfl, rfl, by decide +kernel, rfl, by decide +kernel, by decide +kernel⟩
abbrev s_answers : Stmt := topS 133
theorem sc_answers : FnScope ["calls", "calendar", "answered", "place", "call", "shape", "numbers", "rows", "size"] ["calls"] (defScope s_answers) := ⟨rfl, rfl, rfl, by decide +kernel, rfl, by decide +kernel, by decide +kernel⟩
/-- where the defs, the classes and the constants stand -/
structure Ad where
  f_row_of : Addr
  d_row_of : FuncData
  f_counted : Addr
  d_counted : FuncData
  f_split_row : Addr
  d_split_row : FuncData
  f_is_small_letter : Addr
  d_is_small_letter : FuncData
  f_is_digit : Addr
  d_is_digit : FuncData
  f_number_of : Addr
  d_number_of : FuncData
  f_put_together : Addr
  d_put_together : FuncData
  f_is_ended : Addr
  d_is_ended : FuncData
  f_lines_of : Addr
  d_lines_of : FuncData
  f_cut_line : Addr
  d_cut_line : FuncData
  f_may_stand_in_line_name : Addr
  d_may_stand_in_line_name : FuncData
  f_name_size : Addr
  d_name_size : FuncData
  f_is_other_name : Addr
  d_is_other_name : FuncData
  f_Date_init : Addr
  d_Date_init : FuncData
  f_Calendar_init : Addr
  d_Calendar_init : FuncData
  f_days_of_year : Addr
  d_days_of_year : FuncData
  f_days_of_month : Addr
  d_days_of_month : FuncData
  f_is_day : Addr
  d_is_day : FuncData
  f_is_minute : Addr
  d_is_minute : FuncData
  f_day_number : Addr
  d_day_number : FuncData
  f_day_parts : Addr
  d_day_parts : FuncData
  f_two_digits : Addr
  d_two_digits : FuncData
  f_tell_time : Addr
  d_tell_time : FuncData
  f_has_time_form : Addr
  d_has_time_form : FuncData
  f_read_time : Addr
  d_read_time : FuncData
  f_may_stand_in_name : Addr
  d_may_stand_in_name : FuncData
  f_is_name : Addr
  d_is_name : FuncData
  f_tell_name : Addr
  d_tell_name : FuncData
  f_read_name : Addr
  d_read_name : FuncData
  f_read_number : Addr
  d_read_number : FuncData
  f_is_tag : Addr
  d_is_tag : FuncData
  f_read_tags : Addr
  d_read_tags : FuncData
  f_Reading_init : Addr
  d_Reading_init : FuncData
  f_told_fault : Addr
  d_told_fault : FuncData
  f_read_title : Addr
  d_read_title : FuncData
  f_read_begin : Addr
  d_read_begin : FuncData
  f_read_end : Addr
  d_read_end : FuncData
  f_read_date_name : Addr
  d_read_date_name : FuncData
  f_read_at : Addr
  d_read_at : FuncData
  f_read_long : Addr
  d_read_long : FuncData
  f_read_ring : Addr
  d_read_ring : FuncData
  f_has_one_twice : Addr
  d_has_one_twice : FuncData
  f_read_tag : Addr
  d_read_tag : FuncData
  f_read_other : Addr
  d_read_other : FuncData
  f_read_outside : Addr
  d_read_outside : FuncData
  f_read_within : Addr
  d_read_within : FuncData
  f_read_line : Addr
  d_read_line : FuncData
  f_read_lines : Addr
  d_read_lines : FuncData
  f_read : Addr
  d_read : FuncData
  f_date_numbers : Addr
  d_date_numbers : FuncData
  f_dates_with_tag : Addr
  d_dates_with_tag : FuncData
  f_has_the_same : Addr
  d_has_the_same : FuncData
  f_compare : Addr
  d_compare : FuncData
  f_cut_given : Addr
  d_cut_given : FuncData
  f_load : Addr
  d_load : FuncData
  f_add_date : Addr
  d_add_date : FuncData
  f_drop_date : Addr
  d_drop_date : FuncData
  f_set_title : Addr
  d_set_title : FuncData
  f_set_name : Addr
  d_set_name : FuncData
  f_set_length : Addr
  d_set_length : FuncData
  f_switch_ring : Addr
  d_switch_ring : FuncData
  f_switch_tag : Addr
  d_switch_tag : FuncData
  f_add_other : Addr
  d_add_other : FuncData
  f_line_of : Addr
  d_line_of : FuncData
  f_tell_tags : Addr
  d_tell_tags : FuncData
  f_date_lines : Addr
  d_date_lines : FuncData
  f_calendar_lines : Addr
  d_calendar_lines : FuncData
  f_tell : Addr
  d_tell : FuncData
  f_answer_about_date : Addr
  d_answer_about_date : FuncData
  f_answer_about_row : Addr
  d_answer_about_row : FuncData
  f_answer : Addr
  d_answer : FuncData
  f_answers : Addr
  d_answers : FuncData
  c_Calendar : Addr
  c_Date : Addr
  c_Reading : Addr
  a_MONTH_DAYS : Addr
  a_OTHERWISE : Addr
  a_MEANT : Addr
  a_SHAPES : Addr
structure Txt (K : PySem.W.Frag) (mg : Str → Option Value) (A : Ad) : Prop where
  F_row_of : Fun K "row_of" "row_of" s_row_of A.f_row_of A.d_row_of
  g_row_of : mg "row_of" = some (.ref A.f_row_of)
  F_counted : Fun K "counted" "counted" s_counted A.f_counted A.d_counted
  g_counted : mg "counted" = some (.ref A.f_counted)
  F_split_row : Fun K "split_row" "split_row" s_split_row A.f_split_row A.d_split_row
  g_split_row : mg "split_row" = some (.ref A.f_split_row)
  F_is_small_letter : Fun K "is_small_letter" "is_small_letter" s_is_small_letter A.f_is_small_letter A.d_is_small_letter
  g_is_small_letter : mg "is_small_letter" = some (.ref A.f_is_small_letter)
  F_is_digit : Fun K "is_digit" "is_digit" s_is_digit A.f_is_digit A.d_is_digit
  g_is_digit : mg "is_digit" = some (.ref A.f_is_digit)
  F_number_of : Fun K "number_of" "number_of" s_number_of A.f_number_of A.d_number_of
  g_number_of : mg "number_of" = some (.ref A.f_number_of)
  F_put_together : Fun K "put_together" "put_together" s_put_together A.f_put_together A.d_put_together
  g_put_together : mg "put_together" = some (.ref A.f_put_together)
  F_is_ended : Fun K "is_ended" "is_ended" s_is_ended A.f_is_ended A.d_is_ended
  g_is_ended : mg "is_ended" = some (.ref A.f_is_ended)
  F_lines_of : Fun K "lines_of" "lines_of" s_lines_of A.f_lines_of A.d_lines_of
  g_lines_of : mg "lines_of" = some (.ref A.f_lines_of)
  F_cut_line : Fun K "cut_line" "cut_line" s_cut_line A.f_cut_line A.d_cut_line
  g_cut_line : mg "cut_line" = some (.ref A.f_cut_line)
  F_may_stand_in_line_name : Fun K "may_stand_in_line_name" "may_stand_in_line_name" s_may_stand_in_line_name A.f_may_stand_in_line_name A.d_may_stand_in_line_name
  g_may_stand_in_line_name : mg "may_stand_in_line_name" = some (.ref A.f_may_stand_in_line_name)
  F_name_size : Fun K "name_size" "name_size" s_name_size A.f_name_size A.d_name_size
  g_name_size : mg "name_size" = some (.ref A.f_name_size)
  F_is_other_name : Fun K "is_other_name" "is_other_name" s_is_other_name A.f_is_other_name A.d_is_other_name
  g_is_other_name : mg "is_other_name" = some (.ref A.f_is_other_name)
  F_Date_init : Fun K "__init__" "Date.__init__" s_Date_init A.f_Date_init A.d_Date_init
  F_Calendar_init : Fun K "__init__" "Calendar.__init__" s_Calendar_init A.f_Calendar_init A.d_Calendar_init
  F_days_of_year : Fun K "days_of_year" "days_of_year" s_days_of_year A.f_days_of_year A.d_days_of_year
  g_days_of_year : mg "days_of_year" = some (.ref A.f_days_of_year)
  F_days_of_month : Fun K "days_of_month" "days_of_month" s_days_of_month A.f_days_of_month A.d_days_of_month
  g_days_of_month : mg "days_of_month" = some (.ref A.f_days_of_month)
  F_is_day : Fun K "is_day" "is_day" s_is_day A.f_is_day A.d_is_day
  g_is_day : mg "is_day" = some (.ref A.f_is_day)
  F_is_minute : Fun K "is_minute" "is_minute" s_is_minute A.f_is_minute A.d_is_minute
  g_is_minute : mg "is_minute" = some (.ref A.f_is_minute)
  F_day_number : Fun K "day_number" "day_number" s_day_number A.f_day_number A.d_day_number
  g_day_number : mg "day_number" = some (.ref A.f_day_number)
  F_day_parts : Fun K "day_parts" "day_parts" s_day_parts A.f_day_parts A.d_day_parts
  g_day_parts : mg "day_parts" = some (.ref A.f_day_parts)
  F_two_digits : Fun K "two_digits" "two_digits" s_two_digits A.f_two_digits A.d_two_digits
  g_two_digits : mg "two_digits" = some (.ref A.f_two_digits)
  F_tell_time : Fun K "tell_time" "tell_time" s_tell_time A.f_tell_time A.d_tell_time
  g_tell_time : mg "tell_time" = some (.ref A.f_tell_time)
  F_has_time_form : Fun K "has_time_form" "has_time_form" s_has_time_form A.f_has_time_form A.d_has_time_form
  g_has_time_form : mg "has_time_form" = some (.ref A.f_has_time_form)
  F_read_time : Fun K "read_time" "read_time" s_read_time A.f_read_time A.d_read_time
  g_read_time : mg "read_time" = some (.ref A.f_read_time)
  F_may_stand_in_name : Fun K "may_stand_in_name" "may_stand_in_name" s_may_stand_in_name A.f_may_stand_in_name A.d_may_stand_in_name
  g_may_stand_in_name : mg "may_stand_in_name" = some (.ref A.f_may_stand_in_name)
  F_is_name : Fun K "is_name" "is_name" s_is_name A.f_is_name A.d_is_name
  g_is_name : mg "is_name" = some (.ref A.f_is_name)
  F_tell_name : Fun K "tell_name" "tell_name" s_tell_name A.f_tell_name A.d_tell_name
  g_tell_name : mg "tell_name" = some (.ref A.f_tell_name)
  F_read_name : Fun K "read_name" "read_name" s_read_name A.f_read_name A.d_read_name
  g_read_name : mg "read_name" = some (.ref A.f_read_name)
  F_read_number : Fun K "read_number" "read_number" s_read_number A.f_read_number A.d_read_number
  g_read_number : mg "read_number" = some (.ref A.f_read_number)
  F_is_tag : Fun K "is_tag" "is_tag" s_is_tag A.f_is_tag A.d_is_tag
  g_is_tag : mg "is_tag" = some (.ref A.f_is_tag)
  F_read_tags : Fun K "read_tags" "read_tags" s_read_tags A.f_read_tags A.d_read_tags
  g_read_tags : mg "read_tags" = some (.ref A.f_read_tags)
  F_Reading_init : Fun K "__init__" "Reading.__init__" s_Reading_init A.f_Reading_init A.d_Reading_init
  F_told_fault : Fun K "told_fault" "told_fault" s_told_fault A.f_told_fault A.d_told_fault
  g_told_fault : mg "told_fault" = some (.ref A.f_told_fault)
  F_read_title : Fun K "read_title" "read_title" s_read_title A.f_read_title A.d_read_title
  g_read_title : mg "read_title" = some (.ref A.f_read_title)
  F_read_begin : Fun K "read_begin" "read_begin" s_read_begin A.f_read_begin A.d_read_begin
  g_read_begin : mg "read_begin" = some (.ref A.f_read_begin)
  F_read_end : Fun K "read_end" "read_end" s_read_end A.f_read_end A.d_read_end
  g_read_end : mg "read_end" = some (.ref A.f_read_end)
  F_read_date_name : Fun K "read_date_name" "read_date_name" s_read_date_name A.f_read_date_name A.d_read_date_name
  g_read_date_name : mg "read_date_name" = some (.ref A.f_read_date_name)
  F_read_at : Fun K "read_at" "read_at" s_read_at A.f_read_at A.d_read_at
  g_read_at : mg "read_at" = some (.ref A.f_read_at)
  F_read_long : Fun K "read_long" "read_long" s_read_long A.f_read_long A.d_read_long
  g_read_long : mg "read_long" = some (.ref A.f_read_long)
  F_read_ring : Fun K "read_ring" "read_ring" s_read_ring A.f_read_ring A.d_read_ring
  g_read_ring : mg "read_ring" = some (.ref A.f_read_ring)
  F_has_one_twice : Fun K "has_one_twice" "has_one_twice" s_has_one_twice A.f_has_one_twice A.d_has_one_twice
  g_has_one_twice : mg "has_one_twice" = some (.ref A.f_has_one_twice)
  F_read_tag : Fun K "read_tag" "read_tag" s_read_tag A.f_read_tag A.d_read_tag
  g_read_tag : mg "read_tag" = some (.ref A.f_read_tag)
  F_read_other : Fun K "read_other" "read_other" s_read_other A.f_read_other A.d_read_other
  g_read_other : mg "read_other" = some (.ref A.f_read_other)
  F_read_outside : Fun K "read_outside" "read_outside" s_read_outside A.f_read_outside A.d_read_outside
  g_read_outside : mg "read_outside" = some (.ref A.f_read_outside)
  F_read_within : Fun K "read_within" "read_within" s_read_within A.f_read_within A.d_read_within
  g_read_within : mg "read_within" = some (.ref A.f_read_within)
  F_read_line : Fun K "read_line" "read_line" s_read_line A.f_read_line A.d_read_line
  g_read_line : mg "read_line" = some (.ref A.f_read_line)
  F_read_lines : Fun K "read_lines" "read_lines" s_read_lines A.f_read_lines A.d_read_lines
  g_read_lines : mg "read_lines" = some (.ref A.f_read_lines)
  F_read : Fun K "read" "read" s_read A.f_read A.d_read
  g_read : mg "read" = some (.ref A.f_read)
  F_date_numbers : Fun K "date_numbers" "date_numbers" s_date_numbers A.f_date_numbers A.d_date_numbers
  g_date_numbers : mg "date_numbers" = some (.ref A.f_date_numbers)
  F_dates_with_tag : Fun K "dates_with_tag" "dates_with_tag" s_dates_with_tag A.f_dates_with_tag A.d_dates_with_tag
  g_dates_with_tag : mg "dates_with_tag" = some (.ref A.f_dates_with_tag)
  F_has_the_same : Fun K "has_the_same" "has_the_same" s_has_the_same A.f_has_the_same A.d_has_the_same
  g_has_the_same : mg "has_the_same" = some (.ref A.f_has_the_same)
  F_compare : Fun K "compare" "compare" s_compare A.f_compare A.d_compare
  g_compare : mg "compare" = some (.ref A.f_compare)
  F_cut_given : Fun K "cut_given" "cut_given" s_cut_given A.f_cut_given A.d_cut_given
  g_cut_given : mg "cut_given" = some (.ref A.f_cut_given)
  F_load : Fun K "load" "load" s_load A.f_load A.d_load
  g_load : mg "load" = some (.ref A.f_load)
  F_add_date : Fun K "add_date" "add_date" s_add_date A.f_add_date A.d_add_date
  g_add_date : mg "add_date" = some (.ref A.f_add_date)
  F_drop_date : Fun K "drop_date" "drop_date" s_drop_date A.f_drop_date A.d_drop_date
  g_drop_date : mg "drop_date" = some (.ref A.f_drop_date)
  F_set_title : Fun K "set_title" "set_title" s_set_title A.f_set_title A.d_set_title
  g_set_title : mg "set_title" = some (.ref A.f_set_title)
  F_set_name : Fun K "set_name" "set_name" s_set_name A.f_set_name A.d_set_name
  g_set_name : mg "set_name" = some (.ref A.f_set_name)
  F_set_length : Fun K "set_length" "set_length" s_set_length A.f_set_length A.d_set_length
  g_set_length : mg "set_length" = some (.ref A.f_set_length)
  F_switch_ring : Fun K "switch_ring" "switch_ring" s_switch_ring A.f_switch_ring A.d_switch_ring
  g_switch_ring : mg "switch_ring" = some (.ref A.f_switch_ring)
  F_switch_tag : Fun K "switch_tag" "switch_tag" s_switch_tag A.f_switch_tag A.d_switch_tag
  g_switch_tag : mg "switch_tag" = some (.ref A.f_switch_tag)
  F_add_other : Fun K "add_other" "add_other" s_add_other A.f_add_other A.d_add_other
  g_add_other : mg "add_other" = some (.ref A.f_add_other)
  F_line_of : Fun K "line_of" "line_of" s_line_of A.f_line_of A.d_line_of
  g_line_of : mg "line_of" = some (.ref A.f_line_of)
  F_tell_tags : Fun K "tell_tags" "tell_tags" s_tell_tags A.f_tell_tags A.d_tell_tags
  g_tell_tags : mg "tell_tags" = some (.ref A.f_tell_tags)
  F_date_lines : Fun K "date_lines" "date_lines" s_date_lines A.f_date_lines A.d_date_lines
  g_date_lines : mg "date_lines" = some (.ref A.f_date_lines)
  F_calendar_lines : Fun K "calendar_lines" "calendar_lines" s_calendar_lines A.f_calendar_lines A.d_calendar_lines
  g_calendar_lines : mg "calendar_lines" = some (.ref A.f_calendar_lines)
  F_tell : Fun K "tell" "tell" s_tell A.f_tell A.d_tell
  g_tell : mg "tell" = some (.ref A.f_tell)
  F_answer_about_date : Fun K "answer_about_date" "answer_about_date" s_answer_about_date A.f_answer_about_date A.d_answer_about_date
  g_answer_about_date : mg "answer_about_date" = some (.ref A.f_answer_about_date)
  F_answer_about_row : Fun K "answer_about_row" "answer_about_row" s_answer_about_row A.f_answer_about_row A.d_answer_about_row
  g_answer_about_row : mg "answer_about_row" = some (.ref A.f_answer_about_row)
  F_answer : Fun K "answer" "answer" s_answer A.f_answer A.d_answer
  g_answer : mg "answer" = some (.ref A.f_answer)
  F_answers : Fun K "answers" "answers" s_answers A.f_answers A.d_answers
  g_answers : mg "answers" = some (.ref A.f_answers)
  M_Calendar : Mk K A.c_Calendar A.f_Calendar_init
  C_Calendar : Cls K A.c_Calendar
  g_Calendar : mg "Calendar" = some (.ref A.c_Calendar)
  n_Calendar_title : NoAttr K A.c_Calendar "title"
  n_Calendar_dates : NoAttr K A.c_Calendar "dates"
  M_Date : Mk K A.c_Date A.f_Date_init
  C_Date : Cls K A.c_Date
  g_Date : mg "Date" = some (.ref A.c_Date)
  n_Date_day : NoAttr K A.c_Date "day"
  n_Date_minute : NoAttr K A.c_Date "minute"
  n_Date_length : NoAttr K A.c_Date "length"
  n_Date_name : NoAttr K A.c_Date "name"
  n_Date_rings : NoAttr K A.c_Date "rings"
  n_Date_tags : NoAttr K A.c_Date "tags"
  n_Date_others : NoAttr K A.c_Date "others"
  M_Reading : Mk K A.c_Reading A.f_Reading_init
  C_Reading : Cls K A.c_Reading
  g_Reading : mg "Reading" = some (.ref A.c_Reading)
  n_Reading_calendar : NoAttr K A.c_Reading "calendar"
  n_Reading_within_date : NoAttr K A.c_Reading "within_date"
  n_Reading_fault : NoAttr K A.c_Reading "fault"
  g_NEWLINE : ∃ t, mg "NEWLINE" = some (.int (10) t)
  g_BLANK : ∃ t, mg "BLANK" = some (.int (32) t)
  g_COMMA : ∃ t, mg "COMMA" = some (.int (44) t)
  g_HYPHEN : ∃ t, mg "HYPHEN" = some (.int (45) t)
  g_ZERO : ∃ t, mg "ZERO" = some (.int (48) t)
  g_COLON : ∃ t, mg "COLON" = some (.int (58) t)
  g_BACKSLASH : ∃ t, mg "BACKSLASH" = some (.int (92) t)
  g_FIRST_PIECE : ∃ t, mg "FIRST_PIECE" = some (.int (24) t)
  g_NEXT_PIECE : ∃ t, mg "NEXT_PIECE" = some (.int (23) t)
  g_MOST_NAME : ∃ t, mg "MOST_NAME" = some (.int (16) t)
  g_LEAST_OTHER_NAME : ∃ t, mg "LEAST_OTHER_NAME" = some (.int (3) t)
  g_MOST_DATES : ∃ t, mg "MOST_DATES" = some (.int (6) t)
  g_MOST_RINGS : ∃ t, mg "MOST_RINGS" = some (.int (3) t)
  g_MOST_TAGS : ∃ t, mg "MOST_TAGS" = some (.int (5) t)
  g_MOST_OTHERS : ∃ t, mg "MOST_OTHERS" = some (.int (3) t)
  g_MOST_NUMBER : ∃ t, mg "MOST_NUMBER" = some (.int (9999) t)
  g_FIRST_YEAR : ∃ t, mg "FIRST_YEAR" = some (.int (2000) t)
  g_LAST_YEAR : ∃ t, mg "LAST_YEAR" = some (.int (2099) t)
  g_MONTH_DAYS : mg "MONTH_DAYS" = some (.ref A.a_MONTH_DAYS)
  k_MONTH_DAYS : ∀ H, SqT K H A.a_MONTH_DAYS [.int (31), .int (28), .int (31), .int (30), .int (31), .int (30), .int (31), .int (31), .int (30), .int (31), .int (30), .int (31)]
  g_DAY_MINUTES : ∃ t, mg "DAY_MINUTES" = some (.int (1440) t)
  g_TIME_FORM : ∃ t, mg "TIME_FORM" = some (.str "0000-00-00 00:00" t)
  g_MOST_NAME_BYTES : ∃ t, mg "MOST_NAME_BYTES" = some (.int (40) t)
  g_MOST_DIGITS : ∃ t, mg "MOST_DIGITS" = some (.int (4) t)
  g_MOST_TAG_LETTERS : ∃ t, mg "MOST_TAG_LETTERS" = some (.int (8) t)
  g_OTHERWISE : mg "OTHERWISE" = some (.ref A.a_OTHERWISE)
  k_OTHERWISE : KI K A.a_OTHERWISE [(10, 110), (92, 92), (44, 44), (59, 59)]
  g_MEANT : mg "MEANT" = some (.ref A.a_MEANT)
  k_MEANT : KI K A.a_MEANT [(110, 10), (92, 92), (44, 44), (59, 59)]
  g_RIGHT : ∃ t, mg "RIGHT" = some (.int (0) t)
  g_NO_LINE : ∃ t, mg "NO_LINE" = some (.int (1) t)
  g_MISPLACED : ∃ t, mg "MISPLACED" = some (.int (2) t)
  g_WRONG_VALUE : ∃ t, mg "WRONG_VALUE" = some (.int (3) t)
  g_TOO_MANY : ∃ t, mg "TOO_MANY" = some (.int (4) t)
  g_UNFINISHED : ∃ t, mg "UNFINISHED" = some (.int (5) t)
  g_UNKNOWN : ∃ t, mg "UNKNOWN" = some (.int (6) t)
  g_WRONG : ∃ t, mg "WRONG" = some (.int (-1) t)
  g_NO_DATE : ∃ t, mg "NO_DATE" = some (.int (-3) t)
  g_FULL : ∃ t, mg "FULL" = some (.int (-5) t)
  g_MOST_VALUE_BYTES : ∃ t, mg "MOST_VALUE_BYTES" = some (.int (60) t)
  g_LOAD : ∃ t, mg "LOAD" = some (.int (0) t)
  g_TOLD : ∃ t, mg "TOLD" = some (.int (1) t)
  g_ADD : ∃ t, mg "ADD" = some (.int (2) t)
  g_NAME : ∃ t, mg "NAME" = some (.int (3) t)
  g_LONG : ∃ t, mg "LONG" = some (.int (4) t)
  g_RING : ∃ t, mg "RING" = some (.int (5) t)
  g_TAG : ∃ t, mg "TAG" = some (.int (6) t)
  g_OTHER : ∃ t, mg "OTHER" = some (.int (7) t)
  g_DROP : ∃ t, mg "DROP" = some (.int (8) t)
  g_DATE : ∃ t, mg "DATE" = some (.int (9) t)
  g_FIND : ∃ t, mg "FIND" = some (.int (10) t)
  g_SAME : ∃ t, mg "SAME" = some (.int (11) t)
  g_CUT : ∃ t, mg "CUT" = some (.int (12) t)
  g_JOIN : ∃ t, mg "JOIN" = some (.int (13) t)
  g_SHAPES : mg "SHAPES" = some (.ref A.a_SHAPES)
  k_SHAPES : ∃ as : List Addr, as.length = 15 ∧ (∀ H, SqT K H A.a_SHAPES (as.map V.ref)) ∧ ∀ (H : Hp) (i : Nat) (a : Addr), as[i]? = some a → SqT K H a (([[.int (0), .int (1)], [.int (0), .int (0)], [.int (4), .int (0)], [.int (1), .int (1)], [.int (2), .int (0)], [.int (2), .int (0)], [.int (1), .int (1)], [.int (1), .int (2)], [.int (1), .int (0)], [.int (1), .int (0)], [.int (0), .int (1)], [.int (0), .int (1)], [.int (0), .int (1)], [.int (0), .int (1)], [.int (0), .int (1)]] : List (List V)).getD i [])
  z_len : mg "len" = none
  z_ord : mg "ord" = none
  z_str : mg "str" = none
  z_list : mg "list" = none
  z_all : mg "all" = none
  z_sum : mg "sum" = none
  z_sorted : mg "sorted" = none
  z_range : mg "range" = none
  z_enumerate : mg "enumerate" = none
  z_zip : mg "zip" = none
section
variable {K : PySem.W.Frag} {mg : Str → Option Value} {A : Ad}
theorem b_row_of (T : Txt K mg A) : Binds K A.d_row_of ["text"] [] := T.F_row_of.binds fun _ _ _ _ _ _ us hl => match us, hl with | [_], _ => rfl
theorem b_counted (T : Txt K mg A) : Binds K A.d_counted ["row"] [] := T.F_counted.binds fun _ _ _ _ _ _ us hl => match us, hl with | [_], _ => rfl
theorem b_split_row (T : Txt K mg A) : Binds K A.d_split_row ["row", "mark"] [] := T.F_split_row.binds fun _ _ _ _ _ _ us hl => match us, hl with | [_, _], _ => rfl
theorem b_is_small_letter (T : Txt K mg A) : Binds K A.d_is_small_letter ["byte"] [] := T.F_is_small_letter.binds fun _ _ _ _ _ _ us hl => match us, hl with | [_], _ => rfl
theorem b_is_digit (T : Txt K mg A) : Binds K A.d_is_digit ["byte"] [] := T.F_is_digit.binds fun _ _ _ _ _ _ us hl => match us, hl with | [_], _ => rfl
theorem b_number_of (T : Txt K mg A) : Binds K A.d_number_of ["digits"] [] := T.F_number_of.binds fun _ _ _ _ _ _ us hl => match us, hl with | [_], _ => rfl
theorem b_put_together (T : Txt K mg A) : Binds K A.d_put_together ["text"] [] := T.F_put_together.binds fun _ _ _ _ _ _ us hl => match us, hl with | [_], _ => rfl
theorem b_is_ended (T : Txt K mg A) : Binds K A.d_is_ended ["joined"] [] := T.F_is_ended.binds fun _ _ _ _ _ _ us hl => match us, hl with | [_], _ => rfl
theorem b_lines_of (T : Txt K mg A) : Binds K A.d_lines_of ["joined"] [] := T.F_lines_of.binds fun _ _ _ _ _ _ us hl => match us, hl with | [_], _ => rfl
theorem b_cut_line (T : Txt K mg A) : Binds K A.d_cut_line ["line"] [] := T.F_cut_line.binds fun _ _ _ _ _ _ us hl => match us, hl with | [_], _ => rfl
theorem b_may_stand_in_line_name (T : Txt K mg A) : Binds K A.d_may_stand_in_line_name ["byte"] [] := T.F_may_stand_in_line_name.binds fun _ _ _ _ _ _ us hl => match us, hl with | [_], _ => rfl
theorem b_name_size (T : Txt K mg A) : Binds K A.d_name_size ["line"] [] := T.F_name_size.binds fun _ _ _ _ _ _ us hl => match us, hl with | [_], _ => rfl
theorem b_is_other_name (T : Txt K mg A) : Binds K A.d_is_other_name ["name"] [] := T.F_is_other_name.binds fun _ _ _ _ _ _ us hl => match us, hl with | [_], _ => rfl
theorem b_Date_init (T : Txt K mg A) : Binds K A.d_Date_init ["self"] [] := T.F_Date_init.binds fun _ _ _ _ _ _ us hl => match us, hl with | [_], _ => rfl
theorem b_Calendar_init (T : Txt K mg A) : Binds K A.d_Calendar_init ["self"] [] := T.F_Calendar_init.binds fun _ _ _ _ _ _ us hl => match us, hl with | [_], _ => rfl
theorem b_days_of_year (T : Txt K mg A) : Binds K A.d_days_of_year ["year"] [] := T.F_days_of_year.binds fun _ _ _ _ _ _ us hl => match us, hl with | [_], _ => rfl
theorem b_days_of_month (T : Txt K mg A) : Binds K A.d_days_of_month ["year", "month"] [] := T.F_days_of_month.binds fun _ _ _ _ _ _ us hl => match us, hl with | [_, _], _ => rfl
theorem b_is_day (T : Txt K mg A) : Binds K A.d_is_day ["year", "month", "day"] [] := T.F_is_day.binds fun _ _ _ _ _ _ us hl => match us, hl with | [_, _, _], _ => rfl
theorem b_is_minute (T : Txt K mg A) : Binds K A.d_is_minute ["minute"] [] := T.F_is_minute.binds fun _ _ _ _ _ _ us hl => match us, hl with | [_], _ => rfl
theorem b_day_number (T : Txt K mg A) : Binds K A.d_day_number ["year", "month", "day"] [] := T.F_day_number.binds fun _ _ _ _ _ _ us hl => match us, hl with | [_, _, _], _ => rfl
theorem b_day_parts (T : Txt K mg A) : Binds K A.d_day_parts ["number"] [] := T.F_day_parts.binds fun _ _ _ _ _ _ us hl => match us, hl with | [_], _ => rfl
theorem b_two_digits (T : Txt K mg A) : Binds K A.d_two_digits ["number"] [] := T.F_two_digits.binds fun _ _ _ _ _ _ us hl => match us, hl with | [_], _ => rfl
theorem b_tell_time (T : Txt K mg A) : Binds K A.d_tell_time ["day", "minute"] [] := T.F_tell_time.binds fun _ _ _ _ _ _ us hl => match us, hl with | [_, _], _ => rfl
theorem b_has_time_form (T : Txt K mg A) : Binds K A.d_has_time_form ["value"] [] := T.F_has_time_form.binds fun _ _ _ _ _ _ us hl => match us, hl with | [_], _ => rfl
theorem b_read_time (T : Txt K mg A) : Binds K A.d_read_time ["value"] [] := T.F_read_time.binds fun _ _ _ _ _ _ us hl => match us, hl with | [_], _ => rfl
theorem b_may_stand_in_name (T : Txt K mg A) : Binds K A.d_may_stand_in_name ["byte"] [] := T.F_may_stand_in_name.binds fun _ _ _ _ _ _ us hl => match us, hl with | [_], _ => rfl
theorem b_is_name (T : Txt K mg A) : Binds K A.d_is_name ["row"] [] := T.F_is_name.binds fun _ _ _ _ _ _ us hl => match us, hl with | [_], _ => rfl
theorem b_tell_name (T : Txt K mg A) : Binds K A.d_tell_name ["name"] [] := T.F_tell_name.binds fun _ _ _ _ _ _ us hl => match us, hl with | [_], _ => rfl
theorem b_read_name (T : Txt K mg A) : Binds K A.d_read_name ["value"] [] := T.F_read_name.binds fun _ _ _ _ _ _ us hl => match us, hl with | [_], _ => rfl
theorem b_read_number (T : Txt K mg A) : Binds K A.d_read_number ["value"] [] := T.F_read_number.binds fun _ _ _ _ _ _ us hl => match us, hl with | [_], _ => rfl
theorem b_is_tag (T : Txt K mg A) : Binds K A.d_is_tag ["row"] [] := T.F_is_tag.binds fun _ _ _ _ _ _ us hl => match us, hl with | [_], _ => rfl
theorem b_read_tags (T : Txt K mg A) : Binds K A.d_read_tags ["value"] [] := T.F_read_tags.binds fun _ _ _ _ _ _ us hl => match us, hl with | [_], _ => rfl
theorem b_Reading_init (T : Txt K mg A) : Binds K A.d_Reading_init ["self"] [] := T.F_Reading_init.binds fun _ _ _ _ _ _ us hl => match us, hl with | [_], _ => rfl
theorem b_told_fault (T : Txt K mg A) : Binds K A.d_told_fault ["line_number", "kind"] [] := T.F_told_fault.binds fun _ _ _ _ _ _ us hl => match us, hl with | [_, _], _ => rfl
theorem b_read_title (T : Txt K mg A) : Binds K A.d_read_title ["calendar", "value"] [] := T.F_read_title.binds fun _ _ _ _ _ _ us hl => match us, hl with | [_, _], _ => rfl
theorem b_read_begin (T : Txt K mg A) : Binds K A.d_read_begin ["reading", "value"] [] := T.F_read_begin.binds fun _ _ _ _ _ _ us hl => match us, hl with | [_, _], _ => rfl
theorem b_read_end (T : Txt K mg A) : Binds K A.d_read_end ["reading", "date", "value"] [] := T.F_read_end.binds fun _ _ _ _ _ _ us hl => match us, hl with | [_, _, _], _ => rfl
theorem b_read_date_name (T : Txt K mg A) : Binds K A.d_read_date_name ["date", "value"] [] := T.F_read_date_name.binds fun _ _ _ _ _ _ us hl => match us, hl with | [_, _], _ => rfl
theorem b_read_at (T : Txt K mg A) : Binds K A.d_read_at ["date", "value"] [] := T.F_read_at.binds fun _ _ _ _ _ _ us hl => match us, hl with | [_, _], _ => rfl
theorem b_read_long (T : Txt K mg A) : Binds K A.d_read_long ["date", "value"] [] := T.F_read_long.binds fun _ _ _ _ _ _ us hl => match us, hl with | [_, _], _ => rfl
theorem b_read_ring (T : Txt K mg A) : Binds K A.d_read_ring ["date", "value"] [] := T.F_read_ring.binds fun _ _ _ _ _ _ us hl => match us, hl with | [_, _], _ => rfl
theorem b_has_one_twice (T : Txt K mg A) : Binds K A.d_has_one_twice ["tags"] [] := T.F_has_one_twice.binds fun _ _ _ _ _ _ us hl => match us, hl with | [_], _ => rfl
theorem b_read_tag (T : Txt K mg A) : Binds K A.d_read_tag ["date", "value"] [] := T.F_read_tag.binds fun _ _ _ _ _ _ us hl => match us, hl with | [_, _], _ => rfl
theorem b_read_other (T : Txt K mg A) : Binds K A.d_read_other ["date", "name", "value"] [] := T.F_read_other.binds fun _ _ _ _ _ _ us hl => match us, hl with | [_, _, _], _ => rfl
theorem b_read_outside (T : Txt K mg A) : Binds K A.d_read_outside ["reading", "name", "value"] [] := T.F_read_outside.binds fun _ _ _ _ _ _ us hl => match us, hl with | [_, _, _], _ => rfl
theorem b_read_within (T : Txt K mg A) : Binds K A.d_read_within ["reading", "name", "value"] [] := T.F_read_within.binds fun _ _ _ _ _ _ us hl => match us, hl with | [_, _, _], _ => rfl
theorem b_read_line (T : Txt K mg A) : Binds K A.d_read_line ["reading", "line"] [] := T.F_read_line.binds fun _ _ _ _ _ _ us hl => match us, hl with | [_, _], _ => rfl
theorem b_read_lines (T : Txt K mg A) : Binds K A.d_read_lines ["reading", "lines"] [] := T.F_read_lines.binds fun _ _ _ _ _ _ us hl => match us, hl with | [_, _], _ => rfl
theorem b_read (T : Txt K mg A) : Binds K A.d_read ["text"] [] := T.F_read.binds fun _ _ _ _ _ _ us hl => match us, hl with | [_], _ => rfl
theorem b_date_numbers (T : Txt K mg A) : Binds K A.d_date_numbers ["date"] [] := T.F_date_numbers.binds fun _ _ _ _ _ _ us hl => match us, hl with | [_], _ => rfl
theorem b_dates_with_tag (T : Txt K mg A) : Binds K A.d_dates_with_tag ["calendar", "given"] [] := T.F_dates_with_tag.binds fun _ _ _ _ _ _ us hl => match us, hl with | [_, _], _ => rfl
theorem b_has_the_same (T : Txt K mg A) : Binds K A.d_has_the_same ["calendar", "another"] [] := T.F_has_the_same.binds fun _ _ _ _ _ _ us hl => match us, hl with | [_, _], _ => rfl
theorem b_compare (T : Txt K mg A) : Binds K A.d_compare ["calendar", "text"] [] := T.F_compare.binds fun _ _ _ _ _ _ us hl => match us, hl with | [_, _], _ => rfl
theorem b_cut_given (T : Txt K mg A) : Binds K A.d_cut_given ["line"] [] := T.F_cut_given.binds fun _ _ _ _ _ _ us hl => match us, hl with | [_], _ => rfl
theorem b_load (T : Txt K mg A) : Binds K A.d_load ["calendar", "text"] [] := T.F_load.binds fun _ _ _ _ _ _ us hl => match us, hl with | [_, _], _ => rfl
theorem b_add_date (T : Txt K mg A) : Binds K A.d_add_date ["calendar", "year", "month", "day", "minute"] [] := T.F_add_date.binds fun _ _ _ _ _ _ us hl => match us, hl with | [_, _, _, _, _], _ => rfl
theorem b_drop_date (T : Txt K mg A) : Binds K A.d_drop_date ["calendar", "which"] [] := T.F_drop_date.binds fun _ _ _ _ _ _ us hl => match us, hl with | [_, _], _ => rfl
theorem b_set_title (T : Txt K mg A) : Binds K A.d_set_title ["calendar", "given"] [] := T.F_set_title.binds fun _ _ _ _ _ _ us hl => match us, hl with | [_, _], _ => rfl
theorem b_set_name (T : Txt K mg A) : Binds K A.d_set_name ["date", "given"] [] := T.F_set_name.binds fun _ _ _ _ _ _ us hl => match us, hl with | [_, _], _ => rfl
theorem b_set_length (T : Txt K mg A) : Binds K A.d_set_length ["date", "length"] [] := T.F_set_length.binds fun _ _ _ _ _ _ us hl => match us, hl with | [_, _], _ => rfl
theorem b_switch_ring (T : Txt K mg A) : Binds K A.d_switch_ring ["date", "number"] [] := T.F_switch_ring.binds fun _ _ _ _ _ _ us hl => match us, hl with | [_, _], _ => rfl
theorem b_switch_tag (T : Txt K mg A) : Binds K A.d_switch_tag ["date", "given"] [] := T.F_switch_tag.binds fun _ _ _ _ _ _ us hl => match us, hl with | [_, _], _ => rfl
theorem b_add_other (T : Txt K mg A) : Binds K A.d_add_other ["date", "known_as", "value"] [] := T.F_add_other.binds fun _ _ _ _ _ _ us hl => match us, hl with | [_, _, _], _ => rfl
theorem b_line_of (T : Txt K mg A) : Binds K A.d_line_of ["word", "value"] [] := T.F_line_of.binds fun _ _ _ _ _ _ us hl => match us, hl with | [_, _], _ => rfl
theorem b_tell_tags (T : Txt K mg A) : Binds K A.d_tell_tags ["tags"] [] := T.F_tell_tags.binds fun _ _ _ _ _ _ us hl => match us, hl with | [_], _ => rfl
theorem b_date_lines (T : Txt K mg A) : Binds K A.d_date_lines ["date"] [] := T.F_date_lines.binds fun _ _ _ _ _ _ us hl => match us, hl with | [_], _ => rfl
theorem b_calendar_lines (T : Txt K mg A) : Binds K A.d_calendar_lines ["calendar"] [] := T.F_calendar_lines.binds fun _ _ _ _ _ _ us hl => match us, hl with | [_], _ => rfl
theorem b_tell (T : Txt K mg A) : Binds K A.d_tell ["calendar"] [] := T.F_tell.binds fun _ _ _ _ _ _ us hl => match us, hl with | [_], _ => rfl
theorem b_answer_about_date (T : Txt K mg A) : Binds K A.d_answer_about_date ["calendar", "call", "numbers", "rows"] [] := T.F_answer_about_date.binds fun _ _ _ _ _ _ us hl => match us, hl with | [_, _, _, _], _ => rfl
theorem b_answer_about_row (T : Txt K mg A) : Binds K A.d_answer_about_row ["calendar", "call", "row"] [] := T.F_answer_about_row.binds fun _ _ _ _ _ _ us hl => match us, hl with | [_, _, _], _ => rfl
theorem b_answer (T : Txt K mg A) : Binds K A.d_answer ["calendar", "call", "numbers", "rows"] [] := T.F_answer.binds fun _ _ _ _ _ _ us hl => match us, hl with | [_, _, _, _], _ => rfl
theorem b_answers (T : Txt K mg A) : Binds K A.d_answers ["calls"] [] := T.F_answers.binds fun _ _ _ _ _ _ us hl => match us, hl with | [_], _ => rfl
end
end Ct

set_option Elab.async false
set_option linter.all false
set_option maxRecDepth 100000
set_option maxHeartbeats 4000000
namespace Ct
open PySem PySem.Spec PyProof.Rows L2
/-! ### rows of bytes -/
def nv (l : List Nat) : List V := l.map fun n : Nat => V.int (n : Int)
theorem nv_len (l : List Nat) : (nv l).length = l.length := by simp [nv]
theorem nv_app (a b : List Nat) : nv (a ++ b) = nv a ++ nv b := by simp [nv]
theorem qb {Q : VK} {H : Hp} {a b : Bool} (q : Q (.bl b) H) (e : a = b) : Q (.bl a) H := e ▸ q
theorem qi {Q : VK} {H : Hp} {a b : Int} (q : Q (.int b) H) (e : a = b) : Q (.int a) H := e ▸ q
theorem nv_get {l : List Nat} {i : Nat} {x : V} (h : (nv l)[i]? = some x) : ∃ n, l[i]? = some n ∧ x = .int (n : Int) := by
  unfold nv at h
  rw [List.getElem?_map] at h
  cases e : l[i]? with
  | none => rw [e] at h; cases h
  | some n => rw [e] at h; exact ⟨n, rfl, (Option.some.inj h).symm⟩
theorem take_more {α : Type} : ∀ {l : List α} {i : Nat} {x : α}, l[i]? = some x → l.take (i + 1) = l.take i ++ [x]
  | [], i, x, h => by simp at h
  | a :: l, 0, x, h => by
    have e : a = x := Option.some.inj h
    subst e
    rfl
  | a :: l, i + 1, x, h => by
    have ih := take_more (l := l) (i := i) (x := x) h
    show a :: l.take (i + 1) = a :: l.take i ++ [x]
    rw [ih]
    rfl
theorem same_upd {H : Hp} {p : Addr} {o : HO} (h : H p = none) : Same H (upd H p o) := fun b x e => by
  rw [upd_ne (ne_of_none e h)]
  exact e
theorem same_set {H H1 : Hp} {p : Addr} {o : HO} (s : Same H H1) (h : H p = none) : Same H (upd H1 p o) := fun b x e => by
  rw [upd_ne (ne_of_none e h)]
  exact s _ _ e
def RowsAt (H : Hp) : List Addr → List (List Nat) → Prop
  | [], [] => True
  | a :: r, l :: s => H a = some (.lst (nv l)) ∧ RowsAt H r s
  | _, _ => False
theorem RowsAt.keep {H H' : Hp} : ∀ {ps : List Addr} {ls : List (List Nat)}, RowsAt H ps ls → (∀ p ∈ ps, ∀ o, H p = some o → H' p = some o) → RowsAt H' ps ls
  | [], [], _, _ => trivial
  | a :: r, l :: s, h, k => ⟨k a (List.mem_cons_self ..) _ h.1, RowsAt.keep h.2 fun p hp => k p (List.mem_cons_of_mem _ hp)⟩
  | [], _ :: _, h, _ => h.elim
  | _ :: _, [], h, _ => h.elim
theorem RowsAt.same {H H' : Hp} {ps : List Addr} {ls : List (List Nat)} (h : RowsAt H ps ls) (s : Same H H') : RowsAt H' ps ls := h.keep fun _ _ _ e => s _ _ e
theorem RowsAt.snoc {H : Hp} : ∀ {ps : List Addr} {ls : List (List Nat)} {p : Addr} {l : List Nat}, RowsAt H ps ls → H p = some (.lst (nv l)) → RowsAt H (ps ++ [p]) (ls ++ [l])
  | [], [], _, _, _, e => ⟨e, trivial⟩
  | a :: r, l :: s, _, _, h, e => ⟨h.1, RowsAt.snoc h.2 e⟩
  | [], _ :: _, _, _, h, _ => h.elim
  | _ :: _, [], _, _, h, _ => h.elim
theorem RowsAt.len {H : Hp} : ∀ {ps : List Addr} {ls : List (List Nat)}, RowsAt H ps ls → ps.length = ls.length
  | [], [], _ => rfl
  | _ :: _, _ :: _, h => congrArg (· + 1) (RowsAt.len h.2)
  | [], _ :: _, h => h.elim
  | _ :: _, [], h => h.elim
theorem RowsAt.mem {H : Hp} : ∀ {ps : List Addr} {ls : List (List Nat)} {p : Addr}, RowsAt H ps ls → p ∈ ps → ∃ l, H p = some (.lst (nv l))
  | [], [], _, _, m => by cases m
  | a :: r, l :: s, p, h, m => by
    rcases List.mem_cons.mp m with rfl | m
    · exact ⟨l, h.1⟩
    · exact RowsAt.mem h.2 m
  | [], _ :: _, _, h, _ => h.elim
  | _ :: _, [], _, h, _ => h.elim
/-- a new row -/
structure NewRow (H H' : Hp) (p : Addr) (l : List Nat) : Prop where
  sm : Same H H'
  nw : H p = none
  at_ : H' p = some (.lst (nv l))
/-- a new list of new rows -/
structure NewRows (H H' : Hp) (p : Addr) (ps : List Addr) (ls : List (List Nat)) : Prop where
  sm : Same H H'
  nw : H p = none
  at_ : H' p = some (.lst (ps.map V.ref))
  out : p ∉ ps
  new : ∀ q ∈ ps, H q = none
  rows : RowsAt H' ps ls
theorem sz {n : Nat} (h : n ≤ 10000000) : n < sizeLine := Nat.lt_of_le_of_lt h (by decide)
section
variable {P : Program} {w : World} {K : PySem.W.Frag} {mg : Str → Option Value} {base : Heap} {A : Ad}
/-! ### is_small_letter, is_digit -/
def spN1 (f : Nat → Bool) : Sp := fun vs H Q _ => ∃ n : Nat, vs = [.int (n : Int)] ∧ Q (.bl (f n)) H
theorem ok_is_small_letter (T : Txt K mg A) : FnOk P w K mg base CX0 1 A.f_is_small_letter A.d_is_small_letter ["byte"] (spN1 Cl09.isLetter) := by
  refine T.F_is_small_letter.ok sc_is_small_letter (fun vs H Q E h => ?_) (fun cdv Ar outer s H vs Q E hr h => ?_)
  · obtain ⟨n, rfl, _⟩ := h
    rfl
  · obtain ⟨n, rfl, q⟩ := h
    refine ⟨_, (pss_one (ps_ret (pe_chain op_le op_le pe_int (pv 0) pe_int))), ?_⟩
    refine ⟨_, rfl, _, _, rfl, rfl, _, rfl, ?_⟩
    refine ite2 (fun c => ?_) (fun c => ?_)
    · exact ⟨_, _, rfl, rfl, qb q (by rw [Bool.eq_iff_iff]; simp [Cl09.isLetter] at c ⊢; omega)⟩
    · exact qb q (by rw [Bool.eq_iff_iff]; simp [Cl09.isLetter] at c ⊢; omega)
theorem ok_is_digit (T : Txt K mg A) : FnOk P w K mg base CX0 1 A.f_is_digit A.d_is_digit ["byte"] (spN1 Cl09.isDigit) := by
  refine T.F_is_digit.ok sc_is_digit (fun vs H Q E h => ?_) (fun cdv Ar outer s H vs Q E hr h => ?_)
  · obtain ⟨n, rfl, _⟩ := h
    rfl
  · obtain ⟨n, rfl, q⟩ := h
    refine ⟨_, (pss_one (ps_ret (pe_chain op_le op_le (pe_gi T.g_ZERO) (pv 0) (pe_op op_add (pe_gi T.g_ZERO) pe_int)))), ?_⟩
    refine ⟨_, rfl, _, _, rfl, rfl, _, rfl, ?_⟩
    refine ite2 (fun c => ?_) (fun c => ?_)
    · exact ⟨_, _, rfl, rfl, _, _, rfl, rfl, qb q (by rw [Bool.eq_iff_iff]; simp [Cl09.isDigit] at c ⊢; omega)⟩
    · exact qb q (by rw [Bool.eq_iff_iff]; simp [Cl09.isDigit] at c ⊢; omega)
/-! ### number_of -/
def numI (l : List Nat) : Int := l.foldl (fun (n : Int) (c : Nat) => n * 10 + (c : Int) - 48) 0
theorem numI_snoc (l : List Nat) (c : Nat) : numI (l ++ [c]) = numI l * 10 + (c : Int) - 48 := by simp [numI]
theorem numI_nat : ∀ (l : List Nat), l.all Cl09.isDigit = true → numI l = ((l.foldl (fun (n c : Nat) => 10 * n + (c - 48)) 0 : Nat) : Int) := by
  have go : ∀ (l : List Nat) (n : Nat), l.all Cl09.isDigit = true → l.foldl (fun (n : Int) (c : Nat) => n * 10 + (c : Int) - 48) (n : Int) = ((l.foldl (fun (n c : Nat) => 10 * n + (c - 48)) n : Nat) : Int) := by
    intro l
    induction l with
    | nil => intro n _; rfl
    | cons c r ih =>
      intro n h
      rw [List.all_cons, Bool.and_eq_true] at h
      have hc : 48 ≤ c := by have := h.1; simp [Cl09.isDigit] at this; omega
      rw [List.foldl_cons, List.foldl_cons, ← ih _ h.2]
      congr 1
      omega
  exact fun l h => go l 0 h
theorem numI_bound : ∀ (l : List Nat), l.all Cl09.isDigit = true → 0 ≤ numI l ∧ numI l < 10 ^ l.length := by
  have go : ∀ (l : List Nat) (n : Int), 0 ≤ n → l.all Cl09.isDigit = true → 0 ≤ l.foldl (fun (n : Int) (c : Nat) => n * 10 + (c : Int) - 48) n ∧ l.foldl (fun (n : Int) (c : Nat) => n * 10 + (c : Int) - 48) n < (n + 1) * 10 ^ l.length := by
    intro l
    induction l with
    | nil => intro n h _; exact ⟨h, by simp; omega⟩
    | cons c r ih =>
      intro n h0 h
      rw [List.all_cons, Bool.and_eq_true] at h
      have hc : 48 ≤ c ∧ c ≤ 57 := by have := h.1; simp [Cl09.isDigit] at this; omega
      have q := ih (n * 10 + (c : Int) - 48) (by omega) h.2
      rw [List.foldl_cons, List.length_cons, Int.pow_succ]
      refine ⟨q.1, Int.lt_of_lt_of_le q.2 ?_⟩
      have p0 : (0 : Int) ≤ 10 ^ r.length := Int.pow_nonneg (by decide)
      have p1 : (n * 10 + (c : Int) - 48 + 1) ≤ (n + 1) * 10 := by omega
      have p2 := Int.mul_le_mul_of_nonneg_right p1 p0
      rw [Int.mul_comm (10 ^ r.length) 10, ← Int.mul_assoc]
      exact p2
  intro l h
  have := go l 0 (by decide) h
  simpa [numI] using this
theorem numI_small {l : List Nat} (h : l.all Cl09.isDigit = true) (hl : l.length ≤ 16) : 0 ≤ numI l ∧ numI l < 10 ^ 16 := by
  have q := numI_bound l h
  refine ⟨q.1, Int.lt_of_lt_of_le q.2 ?_⟩
  have p : (10 : Nat) ^ l.length ≤ 10 ^ 16 := Nat.pow_le_pow_right (by decide) hl
  exact_mod_cast p
def spNumber : Sp := fun vs H Q _ => ∃ (a : Addr) (l : List Nat), vs = [.ref a] ∧ H a = some (.lst (nv l)) ∧ l.length ≤ 16 ∧ l.all Cl09.isDigit = true ∧ Q (.int (numI l)) H
theorem ok_number_of (T : Txt K mg A) : FnOk P w K mg base CX0 1 A.f_number_of A.d_number_of ["digits"] spNumber := by
  refine T.F_number_of.ok sc_number_of (fun vs H Q E h => ?_) (fun cdv Ar outer s H vs Q E hr h => ?_)
  · obtain ⟨a, l, rfl, _⟩ := h
    rfl
  · obtain ⟨a, l, rfl, ha, hl, hd, q⟩ := h
    refine ⟨_, (pss_cons (ps_set (i := 1) sc_number_of.nd rfl (Or.inl rfl) pe_int)
      (pss_cons (ps_for PassesOwn.never rfl (pi_list (pv 0)) (pg_name (i := 2) sc_number_of.nd rfl (Or.inl rfl))
        (pss_one (ps_set (i := 1) sc_number_of.nd rfl (Or.inl rfl) (pe_op op_sub (pe_op op_add (pe_op op_mul (pv 1) pe_int) (pv 2)) (pe_gi T.g_ZERO)))))
      (pss_one (ps_ret (pv 1))))), ?_⟩
    refine ⟨_, rfl, a, rfl, ⟨_, SqL.of ha⟩, for_list (K := K) (a := a) (xs := nv l) (fun i σ H' => ∃ v, σ = [some (.ref a), some (.int (numI (l.take i))), v] ∧ H' = H) ⟨none, rfl, rfl⟩ (fun i σ H' _ ⟨_, _, e⟩ => e ▸ SqL.of ha) ?_ ?_⟩
    · rintro i x σ H' hx ⟨v, rfl, rfl⟩
      obtain ⟨n, hn, rfl⟩ := nv_get hx
      have ht : (l.take i).all Cl09.isDigit = true := by
        rw [List.all_eq_true] at hd ⊢
        exact fun y hy => hd y (List.mem_of_mem_take hy)
      have b := numI_small ht (by rw [List.length_take]; omega)
      refine ⟨_, rfl, _, _, rfl, rfl, .inl ⟨by omega, by omega⟩, _, rfl, _, _, rfl, rfl, _, _, rfl, rfl, ?_⟩
      refine ⟨some (.int n), ?_, rfl⟩
      rw [take_more hn, numI_snoc]
      rfl
    · rintro σ H' ⟨v, rfl, rfl⟩
      refine ⟨_, rfl, ?_⟩
      rw [nv_len, List.take_length]
      exact q
/-! ### row_of -/
def spRowOf : Sp := fun vs H Q _ => ∃ z : Str, vs = [.str z] ∧ z.cps.size ≤ 1000 ∧ ∀ H' p, NewRow H H' p z.cps.toList → Q (.ref p) H'
theorem ok_row_of (T : Txt K mg A) : FnOk P w K mg base CX0 1 A.f_row_of A.d_row_of ["text"] spRowOf := by
  refine T.F_row_of.ok sc_row_of (fun vs H Q E h => ?_) (fun cdv Ar outer s H vs Q E hr h => ?_)
  · obtain ⟨z, rfl, _⟩ := h
    rfl
  · obtain ⟨z, rfl, hz, q⟩ := h
    refine ⟨_, (pss_one (ps_ret (pe_lc (own := [("sign", 1)]) (g := gName 1) (tt := tYes) (by rfl) sc_row_of.nd (pi_str (pv 0)) (blkOk_by (own := [("sign", 1)]) (N := ["text", "sign"]) (sc := defScope s_row_of) (by decide +kernel)) (fun _ _ _ _ _ => pg_name (i := 1) sc_row_of.nd rfl (Or.inl rfl)) (fun _ _ _ _ _ => pts_nil) (fun _ _ _ _ _ => (pe_callB call_ord (by rfl) T.z_ord (by decide +kernel) (pa_cons (pv 1) pa_nil)))))), ?_⟩
    refine ⟨_, rfl, z, rfl, fun D nD => ?_⟩
    refine lc_it walk_str (fun i H' => ∃ acc, NewRow H H' D acc ∧ acc = z.cps.toList.take i) ⟨[], ⟨same_upd nD, nD, upd_same⟩, rfl⟩ (fun _ _ _ _ => trivial) ?_ ?_
    · rintro i x H1 H2 hi ⟨acc, R, e⟩ ⟨rfl, c, hc, rfl⟩
      refine ⟨rfl, ?_⟩
      refine ⟨_, rfl, _, rfl, rfl, nv acc, R.at_, ?_, acc ++ [c], ⟨same_set R.sm nD, nD, ?_⟩, ?_⟩
      · rw [nv_len, e, List.length_take]
        exact sz (by omega)
      · rw [upd_same, nv_app]
        rfl
      · rw [e]
        exact (take_more (by simpa using hc)).symm
    · rintro H1 ⟨acc, R, e⟩
      refine q H1 D ?_
      have e2 : acc = z.cps.toList := by rw [e]; exact List.take_of_length_le (by simp)
      rw [← e2]
      exact R
/-! ### split_row -/
def splS (m : Nat) (s : List (List Nat) × List Nat) (c : Nat) : List (List Nat) × List Nat := if c = m then (s.1 ++ [s.2], []) else (s.1, s.2 ++ [c])
def spl (m : Nat) (l : List Nat) : List (List Nat) × List Nat := l.foldl (splS m) ([], [])
def split (m : Nat) (l : List Nat) : List (List Nat) := (spl m l).1 ++ [(spl m l).2]
theorem spl_snoc (m : Nat) (l : List Nat) (c : Nat) : spl m (l ++ [c]) = splS m (spl m l) c := by simp [spl]
theorem spl_len (m : Nat) : ∀ (l : List Nat), (spl m l).1.length + (spl m l).2.length ≤ l.length := by
  have go : ∀ (l : List Nat) (s : List (List Nat) × List Nat), (l.foldl (splS m) s).1.length + (l.foldl (splS m) s).2.length ≤ s.1.length + s.2.length + l.length := by
    intro l
    induction l with
    | nil => intro s; simp
    | cons c r ih =>
      intro s
      rw [List.foldl_cons]
      have q := ih (splS m s c)
      have e : (splS m s c).1.length + (splS m s c).2.length ≤ s.1.length + s.2.length + 1 := by
        unfold splS
        split <;> simp <;> omega
      rw [List.length_cons]
      omega
  intro l
  have := go l ([], [])
  simpa [spl] using this
def spSplit : Sp := fun vs H Q _ => ∃ (a : Addr) (m : Nat) (l : List Nat), vs = [.ref a, .int (m : Int)] ∧ H a = some (.lst (nv l)) ∧ l.length ≤ 100000 ∧ ∀ H' p ps, NewRows H H' p ps (split m l) → Q (.ref p) H'
theorem refs_app (ps : List Addr) (q : Addr) : ps.map V.ref ++ [V.ref q] = (ps ++ [q]).map V.ref := by simp
theorem ok_split_row (T : Txt K mg A) : FnOk P w K mg base CX0 1 A.f_split_row A.d_split_row ["row", "mark"] spSplit := by
  refine T.F_split_row.ok sc_split_row (fun vs H Q E h => ?_) (fun cdv Ar outer s H vs Q E hr h => ?_)
  · obtain ⟨a, m, l, rfl, _⟩ := h
    rfl
  · obtain ⟨a, m, l, rfl, ha, hl, q⟩ := h
    refine ⟨_, (pss_cons (ps_set (i := 2) sc_split_row.nd rfl (Or.inl rfl) (pe_lst pa_nil))
      (pss_cons (ps_set (i := 3) sc_split_row.nd rfl (Or.inl rfl) (pe_lst pa_nil))
      (pss_cons (ps_for PassesOwn.never rfl (pi_list (pv 0)) (pg_name (i := 4) sc_split_row.nd rfl (Or.inl rfl))
        (pss_one (ps_if (pt_cmpR op_eq (pv 4) (pv 1) (nomark _))
          (pss_cons (ps_expr (pe_bm PySem.F.plainAttrs_list PySem.F.slot_list_append PySem.F.type_list_append mt_append (pv 2) (pa_cons (pv 3) pa_nil)))
          (pss_one (ps_set (i := 3) sc_split_row.nd rfl (Or.inl rfl) (pe_lst pa_nil))))
          (pss_one (ps_expr (pe_bm PySem.F.plainAttrs_list PySem.F.slot_list_append PySem.F.type_list_append mt_append (pv 3) (pa_cons (pv 4) pa_nil)))))))
      (pss_cons (ps_expr (pe_bm PySem.F.plainAttrs_list PySem.F.slot_list_append PySem.F.type_list_append mt_append (pv 2) (pa_cons (pv 3) pa_nil)))
      (pss_one (ps_ret (pv 2))))))), ?_⟩
    refine ⟨Nat.zero_le _, fun o no => ?_⟩
    refine ⟨Nat.zero_le _, fun r nr => ?_⟩
    have nro : r ≠ o := fun e => by rw [e, upd_same] at nr; cases nr
    have nr0 : H r = none := by rw [upd_ne nro] at nr; exact nr
    have nao : a ≠ o := ne_of_none ha no
    have nar : a ≠ r := ne_of_none ha nr0
    refine ⟨_, rfl, a, rfl, ⟨_, SqL.of ((upd_ne nar).trans ((upd_ne nao).trans ha))⟩, for_list (K := K) (a := a) (xs := nv l) (fun i σ H' => ∃ (r : Addr) (ps : List Addr) (v : Option V), σ = [some (.ref a), some (.int (m : Int)), some (.ref o), some (.ref r), v] ∧ Same H H' ∧ H r = none ∧ r ≠ o ∧ (∀ x ∈ ps, H x = none ∧ x ≠ o ∧ x ≠ r) ∧
      H' o = some (.lst (ps.map V.ref)) ∧ H' r = some (.lst (nv (spl m (l.take i)).2)) ∧ RowsAt H' ps (spl m (l.take i)).1)
      ⟨r, [], none, rfl, same_set (same_upd no) nr0, nr0, nro, (fun x hx => nomatch hx), (upd_ne nro.symm).trans upd_same, upd_same, trivial⟩ (fun i σ H' _ ⟨_, _, _, _, sm, _⟩ => sm.seq (SqL.of ha)) ?_ ?_⟩
    · rintro i x σ H' hx ⟨r, ps, v, rfl, sm, nr, nro, hps, ho, hr', rows⟩
      obtain ⟨n, hn, rfl⟩ := nv_get hx
      have hlt : i < l.length := (List.getElem?_eq_some_iff.mp hn).1
      have bl := spl_len m (l.take i)
      rw [List.length_take] at bl
      have hpl := rows.len
      refine ⟨_, rfl, _, rfl, rfl, _, rfl, ite2 (fun c => ?_) (fun c => ?_)⟩
      · have c1 : n = m := by have := V.int.inj (of_decide_eq_true c); omega
        refine ⟨_, rfl, .inl ⟨rfl, _, SqL.of ho⟩, _, rfl, o, _, _, rfl, rfl, ho, ?_, ?_⟩
        · rw [List.length_map]
          exact sz (by omega)
        · refine ⟨Nat.zero_le _, fun r2 nr2 => ?_⟩
          have nr2o : r2 ≠ o := fun e => by rw [e, upd_same] at nr2; cases nr2
          have nr2' : H' r2 = none := by rw [upd_ne nr2o] at nr2; exact nr2
          have nr20 : H r2 = none := sm.free nr2'
          have nrr : r ≠ r2 := ne_of_none hr' nr2'
          refine ⟨r2, ps ++ [r], _, rfl, same_set (same_set sm no) nr20, nr20, nr2o, ?_, ?_, ?_, ?_⟩
          · intro x hx
            rcases List.mem_append.mp hx with hx | hx
            · have z := hps x hx
              refine ⟨z.1, z.2.1, fun e => ?_⟩
              have := RowsAt.mem rows hx
              obtain ⟨lx, hlx⟩ := this
              rw [e, nr2'] at hlx
              cases hlx
            · have e : x = r := by simpa using hx
              rw [e]
              exact ⟨nr, nro, nrr⟩
          · rw [upd_ne nr2o.symm, upd_same, refs_app]
          · rw [upd_same, take_more hn, spl_snoc]
            unfold splS
            rw [if_pos c1]
            rfl
          · rw [take_more hn, spl_snoc]
            unfold splS
            rw [if_pos c1]
            refine RowsAt.snoc (rows.keep fun x hx ox e => ?_) ?_
            · have z := hps x hx
              rw [upd_ne (ne_of_none e nr2'), upd_ne z.2.1]
              exact e
            · rw [upd_ne nrr, upd_ne nro]
              exact hr'
      · have c1 : ¬ n = m := fun z => c (decide_eq_true (by rw [z]))
        refine ⟨_, rfl, .inl ⟨rfl, _, SqL.of hr'⟩, _, rfl, r, _, _, rfl, rfl, hr', ?_, ?_⟩
        · rw [nv_len]
          exact sz (by omega)
        · refine ⟨r, ps, _, rfl, same_set sm nr, nr, nro, hps, (upd_ne nro.symm).trans ho, ?_, ?_⟩
          · rw [upd_same, take_more hn, spl_snoc]
            unfold splS
            rw [if_neg c1, nv_app]
            rfl
          · rw [take_more hn, spl_snoc]
            unfold splS
            rw [if_neg c1]
            exact rows.keep fun x hx ox e => (upd_ne (hps x hx).2.2).trans e
    · rintro σ H' ⟨r, ps, v, rfl, sm, nr, nro, hps, ho, hr', rows⟩
      rw [nv_len, List.take_length] at hr' rows
      have hpl := rows.len
      have bl := spl_len m l
      refine ⟨_, rfl, .inl ⟨rfl, _, SqL.of ho⟩, _, rfl, o, _, _, rfl, rfl, ho, ?_, ?_⟩
      · rw [List.length_map]
        exact sz (by omega)
      · refine ⟨_, rfl, q _ o (ps ++ [r]) ⟨same_set sm no, no, ?_, ?_, ?_, ?_⟩⟩
        · rw [upd_same, refs_app]
        · intro hx
          rcases List.mem_append.mp hx with hx | hx
          · exact (hps o hx).2.1 rfl
          · exact nro (by simpa using hx : o = r).symm
        · intro x hx
          rcases List.mem_append.mp hx with hx | hx
          · exact (hps x hx).1
          · have e : x = r := by simpa using hx
            rw [e]
            exact nr
        · exact RowsAt.snoc (rows.keep fun x hx ox e => (upd_ne (hps x hx).2.1).trans e) ((upd_ne nro).trans hr')
end
end Ct

set_option Elab.async false
set_option linter.all false
set_option maxRecDepth 100000
set_option maxHeartbeats 4000000
namespace Ct
open PySem PySem.Spec PyProof.Rows L2
/-! ### slices, equality of rows -/
theorem cut_mid (xs : List V) (i j : Nat) : cutV xs (some (i : Int)) (some (j : Int)) = (xs.drop i).take (j - i) := by
  unfold cutV
  rw [HT.sIx_nat, HT.sIx_nat]
  by_cases h : i ≤ xs.length
  · rw [Nat.min_eq_left h]
    by_cases h2 : j ≤ xs.length
    · rw [Nat.min_eq_left h2]
    · rw [Nat.min_eq_right (by omega), List.take_of_length_le (by rw [List.length_drop]; omega), List.take_of_length_le (by rw [List.length_drop]; omega)]
  · have e1 : min i xs.length = xs.length := Nat.min_eq_right (by omega)
    rw [e1, List.drop_of_length_le (Nat.le_refl _), List.drop_of_length_le (by omega)]
    simp
theorem cut_to (xs : List V) (j : Nat) : cutV xs none (some (j : Int)) = xs.take j := by
  unfold cutV
  rw [HT.sIx_nat, HT.sIx_none]
  show (xs.drop 0).take (min j xs.length - 0) = _
  rw [List.drop_zero, Nat.sub_zero]
  by_cases h : j ≤ xs.length
  · rw [Nat.min_eq_left h]
  · rw [Nat.min_eq_right (by omega), List.take_of_length_le (Nat.le_refl _), List.take_of_length_le (by omega)]
theorem cut_from (xs : List V) (i : Nat) : cutV xs (some (i : Int)) none = xs.drop i := by
  unfold cutV
  rw [HT.sIx_nat, HT.sIx_none]
  by_cases h : i ≤ xs.length
  · rw [Nat.min_eq_left h, List.take_of_length_le (by rw [List.length_drop]; omega)]
  · rw [Nat.min_eq_right (by omega), List.drop_of_length_le (Nat.le_refl _), List.drop_of_length_le (by omega)]
    simp
theorem nv_drop (l : List Nat) (i : Nat) : (nv l).drop i = nv (l.drop i) := by simp [nv, List.map_drop]
theorem nv_take (l : List Nat) (i : Nat) : (nv l).take i = nv (l.take i) := by simp [nv, List.map_take]
def dn (l : List Nat) : PyData := .list (l.map fun n : Nat => PyData.int (n : Int))
theorem dpAll_nv {K : PySem.W.Frag} {H : Hp} : ∀ l : List Nat, DpAll K H (nv l) (l.map fun n : Nat => PyData.int (n : Int))
  | [] => .nil
  | n :: r => .cons (.int _) (dpAll_nv r)
theorem dp_row {K : PySem.W.Frag} {H : Hp} {a : Addr} {l : List Nat} (h : H a = some (.lst (nv l))) : Dp K H (.ref a) (dn l) := .lst (SqL.of h) (dpAll_nv l)
theorem dn_lay : ∀ l : List Nat, PyData.canLayAll0 (l.map fun n : Nat => PyData.int (n : Int)) = true
  | [] => by simp [PyData.canLayAll0]
  | n :: r => by simp [PyData.canLayAll0, PyData.canLay0, dn_lay r]
theorem dn_depth : ∀ l : List Nat, PyData.depthAll (l.map fun n : Nat => PyData.int (n : Int)) ≤ 1
  | [] => by simp [PyData.depthAll]
  | n :: r => by
    have := dn_depth r
    simp only [List.map_cons, PyData.depthAll, PyData.depth]
    omega
theorem sh_row (l : List Nat) : SeqAt.shaped (dn l) = true := by
  have h := dn_depth l
  have h2 : PyData.depth (dn l) ≤ 64 := by
    simp only [dn, PyData.depth]
    omega
  show (PyData.canLay0 (dn l) && decide (PyData.depth (dn l) ≤ 64)) = true
  rw [Bool.and_eq_true]
  exact ⟨by simp only [dn, PyData.canLay0]; exact dn_lay l, decide_eq_true h2⟩
theorem eqv_all : ∀ a b : List Nat, PyData.eqvAll (a.map fun n : Nat => PyData.int (n : Int)) (b.map fun n : Nat => PyData.int (n : Int)) = decide (a = b)
  | [], [] => by simp [PyData.eqvAll]
  | [], _ :: _ => by simp [PyData.eqvAll]
  | _ :: _, [] => by simp [PyData.eqvAll]
  | x :: a, y :: b => by
    have ih := eqv_all a b
    simp only [List.map_cons, PyData.eqvAll, PyData.eqv, ih]
    by_cases h : x = y
    · subst h
      simp
    · have q : ((x : Int) == (y : Int)) = false := beq_eq_false_iff_ne.mpr (by omega)
      rw [q, Bool.false_and]
      simp [h]
theorem eqv_row (a b : List Nat) : PyData.eqv (dn a) (dn b) = decide (a = b) := by
  simp only [dn, PyData.eqv]
  exact eqv_all a b
/-! ### put_together -/
theorem joined_no {c : Nat} {r : List Nat} (h : ¬ (c = 10 ∧ ∃ r', r = 32 :: r')) : Cl09.joined (c :: r) = c :: Cl09.joined r := by
  cases r with
  | nil => simp [Cl09.joined]
  | cons d r =>
    conv => lhs; unfold Cl09.joined
    split
    · rename_i h1
      cases h1
      exact absurd ⟨rfl, _, rfl⟩ h
    · rename_i h1 h2
      cases h2
      rfl
    · rename_i h1
      cases h1
theorem joined_len : ∀ (n : Nat) (l : List Nat), l.length ≤ n → (Cl09.joined l).length ≤ l.length
  | _, [], _ => by simp [Cl09.joined]
  | 0, _ :: _, h => by simp at h
  | n + 1, c :: r, h => by
    by_cases k : c = 10 ∧ ∃ r', r = 32 :: r'
    · obtain ⟨rfl, r', rfl⟩ := k
      have := joined_len n r' (by simp at h; omega)
      simp [Cl09.joined]
      omega
    · rw [joined_no k]
      have := joined_len n r (by simp at h; omega)
      simp
      omega
section
variable {P : Program} {w : World} {K : PySem.W.Frag} {mg : Str → Option Value} {base : Heap} {A : Ad}
/-- a row handed over, a new row given back -/
def spRow (n : Nat) (f : List Nat → List Nat) : Sp := fun vs H Q _ => ∃ (a : Addr) (l : List Nat), vs = [.ref a] ∧ H a = some (.lst (nv l)) ∧ l.length ≤ n ∧ ∀ H' p, NewRow H H' p (f l) → Q (.ref p) H'
/-- a row handed over, a truth value given back -/
def spRowB (n : Nat) (f : List Nat → Bool) : Sp := fun vs H Q _ => ∃ (a : Addr) (l : List Nat), vs = [.ref a] ∧ H a = some (.lst (nv l)) ∧ l.length ≤ n ∧ ∀ H', Same H H' → Q (.bl (f l)) H'
/-- a row handed over, a number given back -/
def spRowI (n : Nat) (f : List Nat → Int) : Sp := fun vs H Q _ => ∃ (a : Addr) (l : List Nat), vs = [.ref a] ∧ H a = some (.lst (nv l)) ∧ l.length ≤ n ∧ ∀ H', Same H H' → Q (.int (f l)) H'
theorem ok_put_together (T : Txt K mg A) : FnOk P w K mg base CX0 1 A.f_put_together A.d_put_together ["text"] (spRow 100000 Cl09.joined) := by
  refine T.F_put_together.ok sc_put_together (fun vs H Q E h => ?_) (fun cdv Ar outer s H vs Q E hr h => ?_)
  · obtain ⟨a, l, rfl, _⟩ := h
    rfl
  · obtain ⟨a, l, rfl, ha, hl, q⟩ := h
    refine ⟨_, (pss_cons (ps_set (i := 1) sc_put_together.nd rfl (Or.inl rfl) (pe_lst pa_nil))
      (pss_cons (ps_set (i := 2) sc_put_together.nd rfl (Or.inl rfl) pe_int)
      (pss_cons (ps_while PassesOwn.never (pt_cmpR op_lt (pv 2) (pe_callB call_len_seq (by rfl) T.z_len PySem.boot_len (pa_cons (pv 0) pa_nil)) (nomark _))
        (pss_one (ps_if (pt_cmpR (op_eqD hr.units) (pe_slice sl_list (pv 0) (po_some (pv 2)) (po_some (pe_op op_add (pv 2) pe_int))) (pe_lst (pa_cons (pe_gi T.g_NEWLINE) (pa_cons (pe_gi T.g_BLANK) pa_nil))) (nomark _))
          (pss_one (ps_aug (i := 2) sc_put_together.nd rfl (Or.inl rfl) pe_int ip_add))
          (pss_cons (ps_expr (pe_bm PySem.F.plainAttrs_list PySem.F.slot_list_append PySem.F.type_list_append mt_append (pv 1) (pa_cons (pe_ix ix_list (pv 0) (pv 2) (fun _ _ => rfl)) pa_nil)))
          (pss_one (ps_aug (i := 2) sc_put_together.nd rfl (Or.inl rfl) pe_int ip_add))))))
      (pss_one (ps_ret (pv 1)))))), ?_⟩
    refine ⟨Nat.zero_le _, fun o no => ?_⟩
    have nao : a ≠ o := ne_of_none ha no
    refine ⟨fun m σ H' => ∃ (i : Nat) (acc : List Nat), m = l.length - i ∧ i ≤ l.length ∧ σ = [some (.ref a), some (.ref o), some (.int (i : Int))] ∧ NewRow H H' o acc ∧ acc ++ Cl09.joined (l.drop i) = Cl09.joined l,
      ⟨_, 0, [], rfl, Nat.zero_le _, rfl, ⟨same_upd no, no, upd_same⟩, rfl⟩, ?_⟩
    rintro m σ H' ⟨i, acc, rfl, hi, rfl, R, e⟩
    have ha' : H' a = some (.lst (nv l)) := R.sm _ _ ha
    have al : acc.length ≤ l.length := by
      have h1 := congrArg List.length e
      rw [List.length_append] at h1
      have h2 := joined_len _ l (Nat.le_refl _)
      omega
    refine ⟨_, rfl, _, rfl, a, _, rfl, .inl (SqL.of ha'), _, _, rfl, rfl, _, rfl, ite2 (fun c => ?_) (fun c => ?_)⟩
    · have hlt : i < l.length := by have := of_decide_eq_true c; rw [nv_len] at this; omega
      refine ⟨fun σ' H'' => ∃ (j : Nat) (acc : List Nat), i < j ∧ j ≤ l.length ∧ σ' = [some (.ref a), some (.ref o), some (.int (j : Int))] ∧ NewRow H H'' o acc ∧ acc ++ Cl09.joined (l.drop j) = Cl09.joined l, ?_, ?_⟩
      · rintro σ' H'' ⟨j, acc, h1, h2, h3, h4, h5⟩
        exact ⟨_, by omega, j, acc, rfl, h2, h3, h4, h5⟩
      · refine ⟨_, rfl, _, rfl, _, rfl, _, rfl, _, _, rfl, rfl, _, rfl, a, _, rfl, SqL.of ha', fun p np => ?_⟩
        have ec : cutV (nv l) (some (i : Int)) (some ((i : Int) + 2)) = nv ((l.drop i).take 2) := by
          have := cut_mid (nv l) i (i + 2)
          rw [nv_drop, nv_take, show i + 2 - i = 2 by omega] at this
          exact this
        have s1 : Same H' (upd H' p (.lst (cutV (nv l) (some (i : Int)) (some ((i : Int) + 2))))) := same_upd np
        refine ⟨by show 2 ≤ sizeLine; decide, fun p2 np2 => ?_⟩
        have np2' : p ≠ p2 := fun z => by rw [← z, upd_same] at np2; cases np2
        refine ⟨dn ((l.drop i).take 2), dn [10, 32], ?_, dp_row upd_same, sh_row _, sh_row _, ?_⟩
        · refine dp_row ?_
          rw [upd_ne np2', upd_same]
          exact congrArg (fun z => some (HO.lst z)) ec
        · have sm2 : Same H' (upd (upd H' p (.lst (cutV (nv l) (some (i : Int)) (some ((i : Int) + 2))))) p2 (.lst (nv [10, 32]))) := s1.trans (same_upd np2)
          refine ⟨_, rfl, ?_⟩
          rw [eqv_row]
          have R2 : NewRow H _ o acc := ⟨R.sm.trans sm2, no, sm2 _ _ R.at_⟩
          refine ite2 (fun c2 => ?_) (fun c2 => ?_)
          · have e2 := of_decide_eq_true c2
            refine ⟨_, rfl, _, _, rfl, rfl, i + 2, acc, by omega, ?_, rfl, R2, ?_⟩
            · have := congrArg List.length e2
              rw [List.length_take, List.length_drop] at this
              simp at this
              omega
            · rw [← e]
              congr 1
              have e3 : l.drop i = 10 :: 32 :: l.drop (i + 2) := by
                rw [← List.take_append_drop 2 (l.drop i), e2, List.drop_drop]
                rfl
              rw [e3]
              rfl
          · have n2 : ¬ (l.drop i).take 2 = [10, 32] := fun z => c2 (decide_eq_true z)
            have g : l[i]? = some l[i] := List.getElem?_eq_getElem hlt
            refine ⟨_, rfl, .inl ⟨rfl, _, SqL.of R2.at_⟩, _, rfl, _, rfl, a, _, _, .int (l[i] : Nat), rfl, rfl, SqL.of (R2.sm _ _ ha), atI_nat (by rw [nv, List.getElem?_map, g]; rfl), o, _, _, rfl, rfl, R2.at_, ?_, ?_⟩
            · rw [nv_len]
              exact sz (by omega)
            · refine ⟨_, rfl, _, _, rfl, rfl, i + 1, acc ++ [l[i]], by omega, by omega, rfl, ⟨same_set R2.sm no, no, ?_⟩, ?_⟩
              · rw [upd_same, nv_app]
                rfl
              · rw [← e, List.append_assoc]
                congr 1
                have e3 : l.drop i = l[i] :: l.drop (i + 1) := List.drop_eq_getElem_cons hlt
                rw [e3, joined_no]
                · rfl
                · rintro ⟨h1, r', h2⟩
                  refine n2 ?_
                  rw [e3, h1, h2]
                  rfl
    · have hge : i = l.length := by
        have : ¬ i < l.length := fun z => c (decide_eq_true (by rw [nv_len]; omega))
        omega
      refine ⟨_, rfl, q H' o ?_⟩
      rw [hge, List.drop_length] at e
      have e2 : acc = Cl09.joined l := by rw [← e]; simp [Cl09.joined]
      rw [← e2]
      exact R
/-! ### is_ended, lines_of -/
def ended (l : List Nat) : Bool := match l.getLast? with
  | none => true
  | some c => c == 10
theorem row_last {l : List Nat} {c : Nat} (h : l.getLast? = some c) : atI (nv l) (-1) = some (.int (c : Int)) := by
  obtain ⟨r, e⟩ := List.getLast?_eq_some_iff.mp h
  rw [e, nv_app]
  exact atI_last _ _
theorem ok_is_ended (T : Txt K mg A) : FnOk P w K mg base CX0 1 A.f_is_ended A.d_is_ended ["joined"] (spRowB 100000 ended) := by
  refine T.F_is_ended.ok sc_is_ended (fun vs H Q E h => ?_) (fun cdv Ar outer s H vs Q E hr h => ?_)
  · obtain ⟨a, l, rfl, _⟩ := h
    rfl
  · obtain ⟨a, l, rfl, ha, hl, q⟩ := h
    refine ⟨_, (pss_one (ps_ret (pe_or (pe_cmpR op_eq (pe_callB call_len_seq (by rfl) T.z_len PySem.boot_len (pa_cons (pv 0) pa_nil)) pe_int (nomark _)) (pe_one (pe_cmpR op_eq (pe_ix ix_list (pv 0) (pe_un un_neg pe_int) (fun _ _ => rfl)) (pe_gi T.g_NEWLINE) (nomark _)))))), ?_⟩
    refine ⟨_, rfl, a, _, rfl, .inl (SqL.of ha), rfl, _, rfl, ite2 (fun c => ?_) (fun c => ?_)⟩
    · have e : l = [] := by
        have := V.int.inj (of_decide_eq_true c)
        rw [nv_len] at this
        exact List.eq_nil_of_length_eq_zero (by omega)
      refine qb (q H (Same.refl H)) ?_
      rw [e]
      rfl
    · cases hg : l.getLast? with
      | none =>
        rw [List.getLast?_eq_none_iff] at hg
        exact absurd (decide_eq_true (by rw [hg]; rfl)) c
      | some d =>
        refine ⟨_, rfl, _, rfl, a, _, _, _, rfl, rfl, SqL.of ha, row_last hg, rfl, ?_⟩
        refine qb (q H (Same.refl H)) ?_
        unfold ended
        rw [hg, Bool.eq_iff_iff]
        simp
        omega
def linesP (l : List Nat) : List (List Nat) := if (spl 10 l).2 = [] then (spl 10 l).1 else split 10 l
theorem RowsAt.unsnoc {H : Hp} : ∀ {ps : List Addr} {ls : List (List Nat)} {l : List Nat}, RowsAt H ps (ls ++ [l]) → ∃ ps' r, ps = ps' ++ [r] ∧ RowsAt H ps' ls ∧ H r = some (.lst (nv l))
  | [a], [], l, h => ⟨[], a, rfl, trivial, h.1⟩
  | a :: r, x :: s, l, h => by
    obtain ⟨ps', r', e, h1, h2⟩ := RowsAt.unsnoc (ps := r) (ls := s) (l := l) h.2
    exact ⟨a :: ps', r', by rw [e]; rfl, ⟨h.1, h1⟩, h2⟩
  | [], [], _, h => h.elim
  | [], _ :: _, _, h => h.elim
  | a :: b :: r, [], l, h => h.2.elim
def spLines : Sp := fun vs H Q _ => ∃ (a : Addr) (l : List Nat), vs = [.ref a] ∧ H a = some (.lst (nv l)) ∧ l.length ≤ 100000 ∧ ∀ H' p ps, NewRows H H' p ps (linesP l) → Q (.ref p) H'
theorem ok_lines_of (T : Txt K mg A) : FnOk P w K mg base CX0 2 A.f_lines_of A.d_lines_of ["joined"] spLines := by
  refine T.F_lines_of.ok sc_lines_of (fun vs H Q E h => ?_) (fun cdv Ar outer s H vs Q E hr h => ?_)
  · obtain ⟨a, l, rfl, _⟩ := h
    rfl
  · obtain ⟨a, l, rfl, ha, hl, q⟩ := h
    refine ⟨_, (pss_cons (ps_set (i := 1) sc_lines_of.nd rfl (Or.inl rfl) (pe_call (ok_split_row T) (hr.mono (by decide)) (by rfl) T.g_split_row T.F_split_row.kp (b_split_row T) .nil pass0 (pa_cons (pv 0) (pa_cons (pe_gi T.g_NEWLINE) pa_nil))))
      (pss_cons (ps_if (pt_cmpR op_eq (pe_callB call_len_seq (by rfl) T.z_len PySem.boot_len (pa_cons (pe_ix ix_list (pv 1) (pe_un un_neg pe_int) (fun _ _ => rfl)) pa_nil)) pe_int (nomark _))
        (pss_one (ps_expr (pe_bm0 PySem.F.plainAttrs_list PySem.F.slot_list_pop PySem.F.type_list_pop mt_pop (pv 1))))
        pss_nil)
      (pss_one (ps_ret (pv 1))))), ?_⟩
    refine ⟨_, rfl, a, 10, l, rfl, ha, hl, fun H1 p ps R => ?_⟩
    obtain ⟨ps', r, rfl, rows, hr'⟩ := RowsAt.unsnoc R.rows
    have nrp : r ≠ p := fun e => R.out (by rw [e]; simp)
    refine ⟨_, rfl, 1, rfl, p, _, -1, .ref r, rfl, rfl, SqL.of R.at_, (by rw [← refs_app]; exact atI_last _ _), r, _, rfl, .inl (SqL.of hr'), rfl, _, rfl, ite2 (fun c => ?_) (fun c => ?_)⟩
    · have e : (spl 10 l).2 = [] := by
        have := V.int.inj (of_decide_eq_true c)
        rw [nv_len] at this
        exact List.eq_nil_of_length_eq_zero (by omega)
      refine ⟨_, rfl, .inl ⟨rfl, _, SqL.of R.at_⟩, p, _, .ref r, rfl, rfl, R.at_, ?_, ?_⟩
      · rw [← refs_app]
        simp
      · refine ⟨_, rfl, q _ p ps' ⟨same_set R.sm R.nw, R.nw, ?_, ?_, ?_, ?_⟩⟩
        · rw [upd_same, ← refs_app, List.dropLast_concat]
        · exact fun z => R.out (List.mem_append_left _ z)
        · exact fun x hx => R.new x (List.mem_append_left _ hx)
        · unfold linesP
          rw [if_pos e]
          refine rows.keep fun x hx ox ex => ?_
          rw [upd_ne (fun z => R.out (by rw [← z]; exact List.mem_append_left _ hx))]
          exact ex
    · have e : ¬ (spl 10 l).2 = [] := fun z => c (decide_eq_true (by rw [z]; rfl))
      refine ⟨_, rfl, q _ p (ps' ++ [r]) ⟨R.sm, R.nw, R.at_, R.out, R.new, ?_⟩⟩
      unfold linesP
      rw [if_neg e]
      exact R.rows
/-! ### cut_line -/
theorem pieces_nil (f : Nat) : Cl09.pieces f [] = [] := by cases f <;> simp [Cl09.pieces]
theorem pieces_cons {f : Nat} {b : List Nat} (h : b ≠ []) (hf : b.length ≤ f) : ∃ f', b.length - 1 ≤ f' ∧ Cl09.pieces f b = 10 :: 32 :: (b.take 23 ++ Cl09.pieces f' (b.drop 23)) := by
  cases f with
  | zero => exact absurd (List.eq_nil_of_length_eq_zero (by omega)) h
  | succ f =>
    refine ⟨f, by omega, ?_⟩
    rw [Cl09.pieces, if_neg h]
    rfl
theorem fits {x : Int} (h1 : -1000000 ≤ x) (h2 : x ≤ 1000000) : Builtin.Range.rangeFitsLong x = true := by
  unfold Builtin.Range.rangeFitsLong
  rw [Bool.and_eq_true]
  exact ⟨decide_eq_true (by omega), decide_eq_true (by omega)⟩
theorem rg23 {n : Nat} (h : n ≤ 100000) : RgC 24 (n : Int) 23 ((n - 24 + 22) / 23) := by
  refine ⟨by decide, by decide, ?_, ?_⟩
  · have e : Builtin.Range.rangeSize 24 (n : Int) 23 = (((n - 24 + 22) / 23 : Nat) : Int) := by
      unfold Builtin.Range.rangeSize
      rw [if_pos (by decide)]
      split <;> omega
    have e2 : ((n - 24 + 22) / 23 : Nat) ≤ 100000 := by omega
    unfold Builtin.Range.small
    rw [e]
    rw [fits (x := 24) (by decide) (by decide), fits (x := (n : Int)) (by omega) (by omega), fits (x := 23) (by decide) (by decide), fits (x := (((n - 24 + 22) / 23 : Nat) : Int)) (by omega) (by omega), if_pos (by decide),
      fits (x := (n : Int) + (23 - 1)) (by omega) (by omega), Bool.or_true]
    rfl
  · unfold Builtin.Range.rangeSize
    rw [if_pos (by decide)]
    split <;> omega
theorem pieces_len : ∀ (f : Nat) (b : List Nat), (Cl09.pieces f b).length ≤ 3 * b.length
  | 0, b => by simp [Cl09.pieces]
  | f + 1, b => by
    rw [Cl09.pieces]
    split
    · simp
    · rename_i h
      have q := pieces_len f (b.drop (Cl09.WIDTH - 1))
      have hb : 1 ≤ b.length := by
        cases b with
        | nil => exact absurd rfl h
        | cons x r => simp
      simp only [List.length_cons, List.length_append, List.length_take, List.length_drop, Cl09.WIDTH] at q ⊢
      omega
theorem cut_len (l : List Nat) : (Cl09.cut l).length ≤ 3 * l.length := by
  unfold Cl09.cut
  have q := pieces_len l.length (l.drop Cl09.WIDTH)
  rw [List.length_append, List.length_take]
  rw [List.length_drop] at q
  simp only [Cl09.WIDTH] at q ⊢
  omega
theorem ok_cut_line (T : Txt K mg A) : FnOk P w K mg base CX0 1 A.f_cut_line A.d_cut_line ["line"] (spRow 100000 Cl09.cut) := by
  refine T.F_cut_line.ok sc_cut_line (fun vs H Q E h => ?_) (fun cdv Ar outer s H vs Q E hr h => ?_)
  · obtain ⟨a, l, rfl, _⟩ := h
    rfl
  · obtain ⟨a, l, rfl, ha, hl, q⟩ := h
    refine ⟨_, (pss_cons (ps_set (i := 1) sc_cut_line.nd rfl (Or.inl rfl) (pe_slice sl_list (pv 0) po_none (po_some (pe_gi T.g_FIRST_PIECE))))
      (pss_cons (ps_for PassesOwn.never rfl (pi_range3 (by rfl) T.z_range (pa_cons (pe_gi T.g_FIRST_PIECE) (pa_cons (pe_callB call_len_seq (by rfl) T.z_len PySem.boot_len (pa_cons (pv 0) pa_nil)) (pa_cons (pe_gi T.g_NEXT_PIECE) pa_nil)))) (pg_name (i := 2) sc_cut_line.nd rfl (Or.inl rfl))
        (pss_cons (ps_expr (pe_bm PySem.F.plainAttrs_list PySem.F.slot_list_extend PySem.F.type_list_extend mt_extend (pv 1) (pa_cons (pe_lst (pa_cons (pe_gi T.g_NEWLINE) (pa_cons (pe_gi T.g_BLANK) pa_nil))) pa_nil)))
        (pss_one (ps_expr (pe_bm PySem.F.plainAttrs_list PySem.F.slot_list_extend PySem.F.type_list_extend mt_extend (pv 1) (pa_cons (pe_slice sl_list (pv 0) (po_some (pv 2)) (po_some (pe_op op_add (pv 2) (pe_gi T.g_NEXT_PIECE)))) pa_nil))))))
      (pss_one (ps_ret (pv 1))))), ?_⟩
    refine ⟨_, rfl, _, rfl, a, _, rfl, SqL.of ha, fun o no => ?_⟩
    have e0 : cutV (nv l) none (some 24) = nv (l.take 24) := (cut_to (nv l) 24).trans (nv_take l 24)
    have nao : a ≠ o := ne_of_none ha no
    have ha1 : (upd H o (.lst (cutV (nv l) none (some 24)))) a = some (.lst (nv l)) := (upd_ne nao).trans ha
    refine ⟨_, rfl, a, _, rfl, .inl (SqL.of ha1), 24, _, 23, _, rfl, (by rw [nv_len]; exact rg23 hl), ?_⟩
    refine for_it walk_rangeC (fun i σ H' => ∃ (acc : List Nat) (f : Nat) (v : Option V), σ = [some (.ref a), some (.ref o), v] ∧ NewRow H H' o acc ∧ (l.drop (24 + 23 * i)).length ≤ f ∧ acc ++ Cl09.pieces f (l.drop (24 + 23 * i)) = Cl09.cut l)
      ⟨l.take 24, l.length, none, rfl, ⟨same_upd no, no, by rw [upd_same, e0]⟩, by rw [List.length_drop]; omega, rfl⟩ (fun _ _ _ _ _ => trivial) ?_ ?_
    · rintro i x σ H1 H2 hi ⟨acc, f, v, rfl, R, hf, e⟩ ⟨rfl, rfl⟩
      have hlt : 24 + 23 * i < l.length := by omega
      have hb : l.drop (24 + 23 * i) ≠ [] := fun z => by
        have := congrArg List.length z
        rw [List.length_drop] at this
        simp at this
        omega
      obtain ⟨f', hf', ep⟩ := pieces_cons hb hf
      have al : acc.length ≤ 300000 := by
        have h1 := congrArg List.length e
        rw [List.length_append] at h1
        have := cut_len l
        omega
      have ei : (24 : Int) + (i : Nat) * 23 = ((24 + 23 * i : Nat) : Int) := by omega
      refine ⟨_, rfl, .inl ⟨rfl, _, SqL.of R.at_⟩, by show 2 ≤ sizeLine; decide, fun p np => ?_⟩
      have npo : o ≠ p := ne_of_none R.at_ np
      refine ⟨o, p, _, _, rfl, rfl, (upd_ne npo).trans R.at_, upd_same, ?_, ?_⟩
      · rw [nv_len]
        show acc.length + 2 ≤ sizeLine
        have := sz (n := acc.length + 2) (by omega)
        omega
      · have R1 : NewRow H (upd (upd H2 p (.lst [.int 10, .int 32])) o (.lst (nv acc ++ [.int 10, .int 32]))) o (acc ++ [10, 32]) := ⟨same_set (fun b ob eb => same_upd np _ _ (R.sm b ob eb)) no, no, by rw [upd_same, nv_app]; rfl⟩
        have ha2 := R1.sm _ _ ha
        refine ⟨_, rfl, .inl ⟨rfl, _, SqL.of R1.at_⟩, _, rfl, _, rfl, _, rfl, _, rfl, _, _, rfl, rfl, _, rfl, a, _, rfl, SqL.of ha2, fun p2 np2 => ?_⟩
        have npo2 : o ≠ p2 := ne_of_none R1.at_ np2
        have es : cutV (nv l) (some ((24 : Int) + (i : Nat) * 23)) (some ((24 : Int) + (i : Nat) * 23 + 23)) = nv ((l.drop (24 + 23 * i)).take 23) := by
          have := cut_mid (nv l) (24 + 23 * i) (24 + 23 * i + 23)
          rw [nv_drop, nv_take, show 24 + 23 * i + 23 - (24 + 23 * i) = 23 by omega] at this
          rw [← this]
          congr 2
          omega
        refine ⟨o, p2, _, _, rfl, rfl, (upd_ne npo2).trans R1.at_, upd_same, ?_, ?_⟩
        · rw [es, nv_len, nv_len, List.length_take, List.length_append]
          have := sz (n := acc.length + 100) (by omega)
          show acc.length + 2 + _ ≤ _
          omega
        · refine ⟨acc ++ [10, 32] ++ (l.drop (24 + 23 * i)).take 23, f', _, rfl, ⟨same_set (fun b ob eb => same_upd np2 _ _ (R1.sm b ob eb)) no, no, ?_⟩, ?_, ?_⟩
          · rw [upd_same, es, ← nv_app]
          · rw [List.length_drop] at hf' ⊢
            omega
          · rw [← e, ep, List.drop_drop]
            simp [Nat.mul_add, Nat.add_assoc]
    · rintro σ H1 ⟨acc, f, v, rfl, R, hf, e⟩
      refine ⟨_, rfl, q _ o ?_⟩
      have ed : l.drop (24 + 23 * ((l.length - 24 + 22) / 23)) = [] := List.drop_of_length_le (by omega)
      rw [ed, pieces_nil, List.append_nil] at e
      rw [← e]
      exact R
/-! ### a line's name -/
def okN (n : Nat) : Bool := Cl09.isLetter n || n == 45
theorem ok_may_stand_in_line_name (T : Txt K mg A) : FnOk P w K mg base CX0 2 A.f_may_stand_in_line_name A.d_may_stand_in_line_name ["byte"] (spN1 okN) := by
  refine T.F_may_stand_in_line_name.ok sc_may_stand_in_line_name (fun vs H Q E h => ?_) (fun cdv Ar outer s H vs Q E hr h => ?_)
  · obtain ⟨n, rfl, _⟩ := h
    rfl
  · obtain ⟨n, rfl, q⟩ := h
    refine ⟨_, (pss_one (ps_ret (pe_or (pe_call (ok_is_small_letter T) (hr.mono (by decide)) (by rfl) T.g_is_small_letter T.F_is_small_letter.kp (b_is_small_letter T) .nil pass0 (pa_cons (pv 0) pa_nil)) (pe_one (pe_cmpR op_eq (pv 0) (pe_gi T.g_HYPHEN) (nomark _)))))), ?_⟩
    refine ⟨_, rfl, n, rfl, _, rfl, ite2 (fun c => ?_) (fun c => ?_)⟩
    · exact qb q (by unfold okN; rw [c]; rfl)
    · refine ⟨_, rfl, rfl, qb q ?_⟩
      have c2 : Cl09.isLetter n = false := by simpa using c
      unfold okN
      rw [c2, Bool.eq_iff_iff]
      simp
      omega
theorem tw_step {f : Nat → Bool} : ∀ {l : List Nat} {i c : Nat}, i ≤ (l.takeWhile f).length → l[i]? = some c → f c = true → i + 1 ≤ (l.takeWhile f).length
  | [], _, _, _, h, _ => by simp at h
  | x :: r, 0, c, _, h, hf => by
    have e : x = c := Option.some.inj h
    rw [List.takeWhile_cons, e, hf]
    simp
  | x :: r, i + 1, c, hi, h, hf => by
    rw [List.takeWhile_cons] at hi ⊢
    cases hx : f x with
    | false => rw [hx] at hi; simp at hi
    | true =>
      rw [hx] at hi
      simp only [if_true, List.length_cons] at hi ⊢
      have := tw_step (l := r) (i := i) (c := c) (by omega) h hf
      omega
theorem tw_stop {f : Nat → Bool} : ∀ {l : List Nat} {i : Nat}, i ≤ (l.takeWhile f).length → (∀ c, l[i]? = some c → f c = false) → i = (l.takeWhile f).length
  | [], i, hi, _ => by simpa using hi
  | x :: r, 0, _, h => by
    rw [List.takeWhile_cons, h x rfl]
    rfl
  | x :: r, i + 1, hi, h => by
    rw [List.takeWhile_cons] at hi ⊢
    cases hx : f x with
    | false => rw [hx] at hi; simp at hi
    | true =>
      rw [hx] at hi
      simp only [if_true, List.length_cons] at hi ⊢
      have := tw_stop (l := r) (i := i) (by omega) (fun c hc => h c hc)
      omega
theorem tw_len (f : Nat → Bool) (l : List Nat) : (l.takeWhile f).length ≤ l.length := by
  have := List.takeWhile_sublist (l := l) f
  exact this.length_le
def nameSize (l : List Nat) : Int := match Cl09.parted l with
  | none => 0
  | some p => (p.1.length : Int)
theorem take1 {l : List Nat} {c : Nat} : l.take 1 = [c] ↔ l.head? = some c := by
  cases l with
  | nil => simp
  | cons x r => simp
theorem parted_yes {l : List Nat} (h1 : (l.takeWhile okN).length ≤ 16) (h2 : (l.drop (l.takeWhile okN).length).head? = some 58) (h3 : l.takeWhile okN ≠ []) :
    Cl09.parted l = some (l.takeWhile okN, l.drop ((l.takeWhile okN).length + 1)) := by
  unfold Cl09.parted
  show (if l.takeWhile okN = [] ∨ (16 < (l.takeWhile okN).length ∨ (l.drop (l.takeWhile okN).length).head? ≠ some 58) then none else some (l.takeWhile okN, l.drop ((l.takeWhile okN).length + 1))) = _
  rw [if_neg]
  rintro (h | h | h)
  · exact h3 h
  · omega
  · exact h h2
theorem parted_no {l : List Nat} (h : l.takeWhile okN = [] ∨ (16 < (l.takeWhile okN).length ∨ (l.drop (l.takeWhile okN).length).head? ≠ some 58)) : Cl09.parted l = none := by
  unfold Cl09.parted
  show (if l.takeWhile okN = [] ∨ (16 < (l.takeWhile okN).length ∨ (l.drop (l.takeWhile okN).length).head? ≠ some 58) then none else some (l.takeWhile okN, l.drop ((l.takeWhile okN).length + 1))) = _
  rw [if_pos h]
/-- if size > 16 or line[size:size + 1] != [58]: return 0; return size -/
theorem size_end {a : Addr} {l : List Nat} {i : Nat} {H : Hp} {Q : VK} (ha : H a = some (.lst (nv l))) (e : i = (l.takeWhile okN).length) (q : ∀ H', Same H H' → Q (.int (nameSize l)) H') :
    tSeq (tIfS (tOr (tTest (tOp (rI0 fun i j => .bl (decide (j < i))) (tVar 1) (tC (.int 16)))) (tTest (tOp (rNeD K) (tSl (rSlL K) (tVar 0) (tPart (tVar 1)) (tPart (tOp (rI0 fun i j => .int (i + j)) (tVar 1) (tC (.int 1))))) (tLst (tCons (tC (.int 58)) tNil))))) (tRet (tC (.int 0))) tNext) (tRet (tVar 1))
      { nx := fun _ H' => Q .non H', rt := Q } [some (.ref a), some (.int (i : Int))] H := by
  refine ⟨_, rfl, _, _, rfl, rfl, _, rfl, ite2 (fun c => ?_) (fun c => ?_)⟩
  · have c1 := of_decide_eq_true c
    refine iteT (qi (q H (Same.refl H)) ?_)
    unfold nameSize
    rw [parted_no (.inr (.inl (by omega)))]
  · have c1 : ¬ (16 : Int) < i := fun z => c (decide_eq_true z)
    refine ⟨_, rfl, _, rfl, _, rfl, _, rfl, _, _, rfl, rfl, _, rfl, a, _, rfl, SqL.of ha, fun p np => ?_⟩
    have ec : cutV (nv l) (some (i : Int)) (some ((i : Int) + 1)) = nv ((l.drop i).take 1) := by
      have := cut_mid (nv l) i (i + 1)
      rw [nv_drop, nv_take, show i + 1 - i = 1 by omega] at this
      exact this
    refine ⟨by show 1 ≤ sizeLine; decide, fun p2 np2 => ?_⟩
    have np2' : p ≠ p2 := fun z => by rw [← z, upd_same] at np2; cases np2
    refine ⟨dn ((l.drop i).take 1), dn [58], dp_row ?_, dp_row upd_same, sh_row _, sh_row _, ?_⟩
    · rw [upd_ne np2', upd_same]
      exact congrArg (fun z => some (HO.lst z)) ec
    · have sm := (same_upd (o := .lst (cutV (nv l) (some (i : Int)) (some ((i : Int) + 1)))) np).trans (same_upd (o := .lst [.int 58]) np2)
      refine ⟨_, rfl, ?_⟩
      rw [eqv_row]
      refine ite2 (fun c2 => ?_) (fun c2 => ?_)
      · refine qi (q _ sm) ?_
        unfold nameSize
        rw [parted_no (.inr (.inr ?_))]
        intro z
        rw [← e] at z
        rw [decide_eq_true (take1.mpr z)] at c2
        exact absurd c2 (by decide)
      · have c3 : (l.drop i).take 1 = [58] := by
          by_cases z : (l.drop i).take 1 = [58]
          · exact z
          · rw [decide_eq_false z] at c2
            exact absurd rfl c2
        refine ⟨_, rfl, qi (q _ sm) ?_⟩
        unfold nameSize
        by_cases h0 : l.takeWhile okN = []
        · rw [parted_no (.inl h0), e, h0]
          rfl
        · rw [parted_yes (by omega) (by rw [← e]; exact take1.mp c3) h0, e]
theorem ok_name_size (T : Txt K mg A) : FnOk P w K mg base CX0 3 A.f_name_size A.d_name_size ["line"] (spRowI 100000 nameSize) := by
  refine T.F_name_size.ok sc_name_size (fun vs H Q E h => ?_) (fun cdv Ar outer s H vs Q E hr h => ?_)
  · obtain ⟨a, l, rfl, _⟩ := h
    rfl
  · obtain ⟨a, l, rfl, ha, hl, q⟩ := h
    refine ⟨_, (pss_cons (ps_set (i := 1) sc_name_size.nd rfl (Or.inl rfl) pe_int)
      (pss_cons (ps_while PassesOwn.never (PW.pt (pw_and (pt_cmpR op_lt (pv 1) (pe_callB call_len_seq (by rfl) T.z_len PySem.boot_len (pa_cons (pv 0) pa_nil)) (nomark _)) (pw_and1 (pt_val (pe_call (ok_may_stand_in_line_name T) (hr.mono (by decide)) (by rfl) T.g_may_stand_in_line_name T.F_may_stand_in_line_name.kp (b_may_stand_in_line_name T) .nil pass0 (pa_cons (pe_ix ix_list (pv 0) (pv 1) (fun _ _ => rfl)) pa_nil))))))
        (pss_one (ps_aug (i := 1) sc_name_size.nd rfl (Or.inl rfl) pe_int ip_add)))
      (pss_cons (ps_if (PW.pt (pw_or (pt_cmpR op_gt (pv 1) (pe_gi T.g_MOST_NAME) (nomark _)) (pw_or1 (pt_cmpR (op_neD hr.units) (pe_slice sl_list (pv 0) (po_some (pv 1)) (po_some (pe_op op_add (pv 1) pe_int))) (pe_lst (pa_cons (pe_gi T.g_COLON) pa_nil)) (nomark _)))))
        (pss_one (ps_ret pe_int))
        pss_nil)
      (pss_one (ps_ret (pv 1)))))), ?_⟩
    refine ⟨fun m σ H' => ∃ i : Nat, m = l.length - i ∧ i ≤ (l.takeWhile okN).length ∧ σ = [some (.ref a), some (.int (i : Int))] ∧ H' = H, ⟨_, 0, rfl, Nat.zero_le _, rfl, rfl⟩, ?_⟩
    rintro m σ H' ⟨i, rfl, hi, rfl, rfl⟩
    have tl := tw_len okN l
    refine ⟨_, rfl, _, rfl, a, _, rfl, .inl (SqL.of ha), _, _, rfl, rfl, _, rfl, ite2 (fun c => ?_) (fun c => ?_)⟩
    · have hlt : i < l.length := by have := of_decide_eq_true c; rw [nv_len] at this; omega
      have g : l[i]? = some l[i] := List.getElem?_eq_getElem hlt
      refine ⟨_, rfl, _, rfl, a, _, _, .int (l[i] : Nat), rfl, rfl, SqL.of ha, atI_nat (by rw [nv, List.getElem?_map, g]; rfl), l[i], rfl, _, rfl, ite2 (fun c2 => ?_) (fun c2 => ?_)⟩
      · refine ⟨fun σ' H'' => σ' = [some (.ref a), some (.int ((i + 1 : Nat) : Int))] ∧ H'' = H', ?_, ?_⟩
        · rintro σ' H'' ⟨h1, h2⟩
          exact ⟨_, by omega, i + 1, rfl, tw_step hi g c2, h1, h2⟩
        · exact ⟨_, rfl, _, _, rfl, rfl, rfl, rfl⟩
      · have e : i = (l.takeWhile okN).length := tw_stop hi fun d hd => by
          rw [g] at hd
          rw [← Option.some.inj hd]
          simpa using c2
        clear c c2 g hlt
        exact size_end ha e q
    · have e : i = (l.takeWhile okN).length := tw_stop hi fun d hd => by
        have hge : ¬ i < l.length := fun z => c (decide_eq_true (by rw [nv_len]; omega))
        have := (List.getElem?_eq_some_iff.mp hd).1
        omega
      clear c
      exact size_end ha e q
theorem all_map (l : List Nat) (f : Nat → Bool) : (l.map f).all id = l.all f := by simp [List.all_map]
/-- what a comprehension of truth values has made -/
structure Bls (H H' : Hp) (D : Addr) (bs : List Bool) : Prop where
  sm : Same H H'
  nw : H D = none
  at_ : H' D = some (.lst (bs.map V.bl))
theorem Bls.more {H H' : Hp} {D : Addr} {bs : List Bool} (B : Bls H H' D bs) (b : Bool) : Bls H (upd H' D (.lst (bs.map V.bl ++ [.bl b]))) D (bs ++ [b]) := ⟨same_set B.sm B.nw, B.nw, by rw [upd_same]; simp⟩
theorem xd : (Str.ofString "x-").cps.toList = Cl09.ascii "x-" := by decide +kernel
theorem ok_is_other_name (T : Txt K mg A) : FnOk P w K mg base CX0 3 A.f_is_other_name A.d_is_other_name ["name"] (spRowB 100000 Cl09.isExtra) := by
  refine T.F_is_other_name.ok sc_is_other_name (fun vs H Q E h => ?_) (fun cdv Ar outer s H vs Q E hr h => ?_)
  · obtain ⟨a, l, rfl, _⟩ := h
    rfl
  · obtain ⟨a, l, rfl, ha, hl, q⟩ := h
    refine ⟨_, (pss_cons (ps_if (PW.pt (pw_or (pt_cmpR op_lt (pe_callB call_len_seq (by rfl) T.z_len PySem.boot_len (pa_cons (pv 0) pa_nil)) (pe_gi T.g_LEAST_OTHER_NAME) (nomark _)) (pw_or1 (pt_cmpR op_gt (pe_callB call_len_seq (by rfl) T.z_len PySem.boot_len (pa_cons (pv 0) pa_nil)) (pe_gi T.g_MOST_NAME) (nomark _)))))
        (pss_one (ps_ret pe_bl))
        pss_nil)
      (pss_one (ps_ret (pe_and (pe_cmpR (op_eqD hr.units) (pe_slice sl_list (pv 0) po_none (po_some pe_int)) (pe_call (ok_row_of T) (hr.mono (by decide)) (by rfl) T.g_row_of T.F_row_of.kp (b_row_of T) .nil pass0 (pa_cons pe_str pa_nil)) (nomark _)) (pe_one (pe_callB (cr_all (by rfl)) (by rfl) T.z_all (by decide +kernel) (pa_cons (pe_lc (own := [("byte", 1)]) (g := gName 1) (tt := tYes) (by rfl) sc_is_other_name.nd (pi_list (pv 0)) (blkOk_by (own := [("byte", 1)]) (N := ["name", "byte"]) (sc := defScope s_is_other_name) (by decide +kernel)) (fun _ _ _ _ _ => pg_name (i := 1) sc_is_other_name.nd rfl (Or.inl rfl)) (fun _ _ _ _ _ => pts_nil) (fun _ _ _ _ _ => (pe_call (ok_may_stand_in_line_name T) (hr.mono (by decide)) (by rfl) T.g_may_stand_in_line_name T.F_may_stand_in_line_name.kp (b_may_stand_in_line_name T) .nil pass0 (pa_cons (pv 1) pa_nil)))) pa_nil))))))), ?_⟩
    refine ⟨_, rfl, a, _, rfl, .inl (SqL.of ha), _, _, rfl, rfl, _, rfl, ite2 (fun c => ?_) (fun c => ?_)⟩
    · have c1 := of_decide_eq_true c
      rw [nv_len] at c1
      refine iteT (qb (q H (Same.refl H)) ?_)
      unfold Cl09.isExtra
      rw [decide_eq_false (show ¬ 3 ≤ l.length by omega), Bool.false_and, Bool.and_false]
    · have c1 : ¬ ((nv l).length : Int) < 3 := fun z => c (decide_eq_true z)
      rw [nv_len] at c1
      refine ⟨_, rfl, a, _, rfl, .inl (SqL.of ha), _, _, rfl, rfl, _, rfl, ite2 (fun c2 => ?_) (fun c2 => ?_)⟩
      · have c3 := of_decide_eq_true c2
        rw [nv_len] at c3
        refine qb (q H (Same.refl H)) ?_
        unfold Cl09.isExtra
        rw [decide_eq_false (show ¬ l.length ≤ 16 by omega), Bool.false_and, Bool.and_false, Bool.and_false]
      · have c3 : ¬ 16 < ((nv l).length : Int) := fun z => c2 (decide_eq_true z)
        rw [nv_len] at c3
        refine ⟨_, rfl, _, rfl, a, _, rfl, SqL.of ha, fun p np => ?_⟩
        have s1 : Same H (upd H p (.lst (cutV (nv l) none (some 2)))) := same_upd np
        have ec : cutV (nv l) none (some 2) = nv (l.take 2) := (cut_to (nv l) 2).trans (nv_take l 2)
        refine ⟨"x-", rfl, by decide +kernel, fun H2 p2 R => ?_⟩
        have s2 : Same H H2 := s1.trans R.sm
        have ex : Cl09.isExtra l = (decide (l.take 2 = Cl09.ascii "x-") && l.all okN) := by
          unfold Cl09.isExtra
          rw [decide_eq_true (show 3 ≤ l.length by omega), decide_eq_true (show l.length ≤ 16 by omega), Bool.true_and, Bool.true_and]
          have eb : (l.take 2 == Cl09.ascii "x-") = decide (l.take 2 = Cl09.ascii "x-") := by
            rw [Bool.eq_iff_iff]
            simp
          rw [eb]
          rfl
        refine ⟨dn (l.take 2), dn (Cl09.ascii "x-"), dp_row (R.sm _ _ (by rw [upd_same, ec])), dp_row (by rw [R.at_, xd]), sh_row _, sh_row _, ?_⟩
        rw [eqv_row]
        refine ⟨_, rfl, ite2 (fun c4 => ?_) (fun c4 => ?_)⟩
        · refine ⟨_, rfl, a, rfl, ⟨_, SqL.of (s2 _ _ ha)⟩, fun D nD => ?_⟩
          refine lc_list (K := K) (a := a) (xs := nv l) (fun i H' => ∃ bs, Bls H2 H' D bs ∧ bs = (l.take i).map okN) ⟨[], ⟨same_upd nD, nD, upd_same⟩, rfl⟩ (fun i H' _ ⟨bs, B, _⟩ => SqL.of (B.sm _ _ (s2 _ _ ha))) ?_ ?_
          · rintro i x H' hx ⟨bs, B, e⟩
            obtain ⟨n, hn, rfl⟩ := nv_get hx
            refine ⟨rfl, _, rfl, n, rfl, bs.map V.bl, B.at_, ?_, bs ++ [okN n], B.more _, ?_⟩
            · rw [List.length_map, e, List.length_map, List.length_take]
              exact sz (by omega)
            · rw [e, take_more hn, List.map_append]
              rfl
          · rintro H' ⟨bs, B, e⟩
            refine ⟨D, bs, rfl, SqL.of B.at_, qb (q H' (s2.trans B.sm)) ?_⟩
            rw [ex, c4, e, nv_len, List.take_length, all_map, Bool.true_and]
        · refine qb (q H2 s2) ?_
          have c5 : decide (l.take 2 = Cl09.ascii "x-") = false := by simpa using c4
          rw [ex, c5, Bool.false_and]
end
end Ct

set_option Elab.async false
set_option linter.all false
set_option maxRecDepth 100000
set_option maxHeartbeats 4000000
namespace Ct
open PySem PySem.Spec PyProof.Rows L2
section
variable {P : Program} {w : World} {K : PySem.W.Frag} {mg : Str → Option Value} {base : Heap} {A : Ad}
/-! ### days and months -/
def dY (y : Nat) : Nat := if y % 4 = 0 then 366 else 365
def spDY : Sp := fun vs H Q _ => ∃ y : Nat, vs = [.int (y : Int)] ∧ Q (.int (dY y : Nat)) H
theorem ok_days_of_year (T : Txt K mg A) : FnOk P w K mg base CX0 1 A.f_days_of_year A.d_days_of_year ["year"] spDY := by
  refine T.F_days_of_year.ok sc_days_of_year (fun vs H Q E h => ?_) (fun cdv Ar outer s H vs Q E hr h => ?_)
  · obtain ⟨n, rfl, _⟩ := h
    rfl
  · obtain ⟨n, rfl, q⟩ := h
    refine ⟨_, (pss_one (ps_ret (pe_ifExp (pt_cmpR op_eq (pe_op op_mod (pv 0) pe_int) pe_int (nomark _)) pe_int pe_int))), ?_⟩
    refine ⟨_, rfl, _, _, rfl, rfl, (by show (0 : Int) < 4; decide), rfl, _, rfl, ite2 (fun c => ?_) (fun c => ?_)⟩
    · refine qi q ?_
      have c1 := V.int.inj (of_decide_eq_true c)
      unfold dY
      rw [if_pos (by omega)]
      rfl
    · refine qi q ?_
      have c1 : ¬ ((n : Int) % 4) = 0 := fun z => c (decide_eq_true (by rw [← z]))
      unfold dY
      rw [if_neg (by omega)]
      rfl
def spDM : Sp := fun vs H Q _ => ∃ y m : Nat, vs = [.int (y : Int), .int (m : Int)] ∧ 2000 ≤ y ∧ 1 ≤ m ∧ m ≤ 12 ∧ Q (.int (Cl01.monthDays (y - 2000) m : Nat)) H
theorem months_at : ∀ m : Nat, 1 ≤ m → m ≤ 12 → ∀ y : Nat, ¬ (m = 2 ∧ y % 4 = 0) → (([31, 28, 31, 30, 31, 30, 31, 31, 30, 31, 30, 31] : List Nat))[m - 1]? = some (Cl01.monthDays y m) := by
  intro m h1 h2 y h
  have : m = 1 ∨ m = 2 ∨ m = 3 ∨ m = 4 ∨ m = 5 ∨ m = 6 ∨ m = 7 ∨ m = 8 ∨ m = 9 ∨ m = 10 ∨ m = 11 ∨ m = 12 := by omega
  rcases this with rfl | rfl | rfl | rfl | rfl | rfl | rfl | rfl | rfl | rfl | rfl | rfl <;> try rfl
  have h3 : ¬ y % 4 = 0 := fun z => h ⟨rfl, z⟩
  simp [Cl01.monthDays, Cl01.leap, h3]
theorem ok_days_of_month (T : Txt K mg A) : FnOk P w K mg base CX0 1 A.f_days_of_month A.d_days_of_month ["year", "month"] spDM := by
  refine T.F_days_of_month.ok sc_days_of_month (fun vs H Q E h => ?_) (fun cdv Ar outer s H vs Q E hr h => ?_)
  · obtain ⟨y, m, rfl, _⟩ := h
    rfl
  · obtain ⟨y, m, rfl, hy, h1, h2, q⟩ := h
    refine ⟨_, (pss_cons (ps_if (PW.pt (pw_and (pt_cmpR op_eq (pv 1) pe_int (nomark _)) (pw_and1 (pt_cmpR op_eq (pe_op op_mod (pv 0) pe_int) pe_int (nomark _)))))
        (pss_one (ps_ret pe_int))
        pss_nil)
      (pss_one (ps_ret (pe_ix ix_tup (pe_gr T.g_MONTH_DAYS) (pe_op op_sub (pv 1) pe_int) (fun _ _ => rfl))))), ?_⟩
    have rest : ¬ (m = 2 ∧ y % 4 = 0) → ∃ v, atI [V.int 31, .int 28, .int 31, .int 30, .int 31, .int 30, .int 31, .int 31, .int 30, .int 31, .int 30, .int 31] ((m : Int) - 1) = some v ∧ Q v H := by
      intro hn
      refine ⟨.int (Cl01.monthDays (y - 2000) m : Nat), ?_, q⟩
      have e := months_at m h1 h2 (y - 2000) (fun z => hn ⟨z.1, by omega⟩)
      have e2 : ((m : Int) - 1) = ((m - 1 : Nat) : Int) := by omega
      rw [e2]
      refine atI_nat ?_
      have e3 : (nv [31, 28, 31, 30, 31, 30, 31, 31, 30, 31, 30, 31])[m - 1]? = some (.int (Cl01.monthDays (y - 2000) m : Nat)) := by
        rw [nv, List.getElem?_map, e]
        rfl
      exact e3
    refine ⟨_, rfl, rfl, _, rfl, ite2 (fun c => ?_) (fun c => ?_)⟩
    · have c1 := V.int.inj (of_decide_eq_true c)
      refine ⟨_, rfl, _, _, rfl, rfl, (by show (0 : Int) < 4; decide), rfl, _, rfl, ite2 (fun c2 => ?_) (fun c2 => ?_)⟩
      · have c3 := V.int.inj (of_decide_eq_true c2)
        refine qi q ?_
        have em : m = 2 := by omega
        subst em
        have : Cl01.leap (y - 2000) = true := by unfold Cl01.leap; simp; omega
        simp [Cl01.monthDays, this]
      · have c3 : ¬ ((y : Int) % 4) = 0 := fun z => c2 (decide_eq_true (by rw [← z]))
        obtain ⟨v, hv, qv⟩ := rest (fun z => c3 (by omega))
        exact ⟨_, rfl, _, _, rfl, rfl, _, _, _, v, rfl, rfl, T.k_MONTH_DAYS _, hv, qv⟩
    · have c1 : ¬ m = 2 := fun z => c (decide_eq_true (by rw [z]; rfl))
      obtain ⟨v, hv, qv⟩ := rest (fun z => c1 z.1)
      exact iteF ⟨_, rfl, _, _, rfl, rfl, _, _, _, v, rfl, rfl, T.k_MONTH_DAYS _, hv, qv⟩
/-- whether there is such a day -/
def dayOk (y m d : Nat) : Bool := decide (2000 ≤ y) && Cl01.isDate (y - 2000) m d
def spDay : Sp := fun vs H Q _ => ∃ y m d : Nat, vs = [.int (y : Int), .int (m : Int), .int (d : Int)] ∧ Q (.bl (dayOk y m d)) H
theorem dayOk_no {y m d : Nat} (h : y < 2000 ∨ 2099 < y ∨ m < 1 ∨ 12 < m) : dayOk y m d = false := by
  unfold dayOk Cl01.isDate
  rcases h with h | h | h | h
  · rw [decide_eq_false (by omega)]
    rfl
  · rw [decide_eq_false (show ¬ y - 2000 < 100 by omega), Bool.false_and, Bool.and_false]
  · rw [decide_eq_false (show ¬ 1 ≤ m by omega), Bool.false_and, Bool.and_false, Bool.and_false]
  · rw [decide_eq_false (show ¬ m ≤ 12 by omega), Bool.false_and, Bool.and_false, Bool.and_false, Bool.and_false]
theorem dayOk_yes {y m d : Nat} (h1 : ¬ y < 2000) (h2 : ¬ 2099 < y) (h3 : ¬ m < 1) (h4 : ¬ 12 < m) : dayOk y m d = (decide (1 ≤ d) && decide (d ≤ Cl01.monthDays (y - 2000) m)) := by
  unfold dayOk Cl01.isDate
  rw [decide_eq_true (show 2000 ≤ y by omega), decide_eq_true (show y - 2000 < 100 by omega), decide_eq_true (show 1 ≤ m by omega), decide_eq_true (show m ≤ 12 by omega)]
  simp
theorem ok_is_day (T : Txt K mg A) : FnOk P w K mg base CX0 2 A.f_is_day A.d_is_day ["year", "month", "day"] spDay := by
  refine T.F_is_day.ok sc_is_day (fun vs H Q E h => ?_) (fun cdv Ar outer s H vs Q E hr h => ?_)
  · obtain ⟨y, m, d, rfl, _⟩ := h
    rfl
  · obtain ⟨y, m, d, rfl, q⟩ := h
    refine ⟨_, (pss_cons (ps_if (PW.pt (pw_or (pt_cmpR op_lt (pv 0) (pe_gi T.g_FIRST_YEAR) (nomark _)) (pw_or (pt_cmpR op_gt (pv 0) (pe_gi T.g_LAST_YEAR) (nomark _)) (pw_or (pt_cmpR op_lt (pv 1) pe_int (nomark _)) (pw_or1 (pt_cmpR op_gt (pv 1) pe_int (nomark _)))))))
        (pss_one (ps_ret pe_bl))
        pss_nil)
      (pss_one (ps_ret (pe_chain op_le op_le pe_int (pv 2) (pe_call (ok_days_of_month T) (hr.mono (by decide)) (by rfl) T.g_days_of_month T.F_days_of_month.kp (b_days_of_month T) .nil pass0 (pa_cons (pv 0) (pa_cons (pv 1) pa_nil))))))), ?_⟩
    refine ⟨_, rfl, _, _, rfl, rfl, _, rfl, ite2 (fun c => ?_) (fun c => ?_)⟩
    · have c1 := of_decide_eq_true c
      exact iteT (qb q (dayOk_no (by omega)).symm)
    have c1 : ¬ (y : Int) < 2000 := fun z => c (decide_eq_true z)
    refine ⟨_, rfl, _, _, rfl, rfl, _, rfl, ite2 (fun c => ?_) (fun c => ?_)⟩
    · have c2 := of_decide_eq_true c
      exact iteT (qb q (dayOk_no (by omega)).symm)
    have c2 : ¬ (2099 : Int) < y := fun z => c (decide_eq_true z)
    refine ⟨_, rfl, _, _, rfl, rfl, _, rfl, ite2 (fun c => ?_) (fun c => ?_)⟩
    · have c3 := of_decide_eq_true c
      exact iteT (qb q (dayOk_no (by omega)).symm)
    have c3 : ¬ (m : Int) < 1 := fun z => c (decide_eq_true z)
    refine ⟨_, rfl, _, _, rfl, rfl, _, rfl, ite2 (fun c => ?_) (fun c => ?_)⟩
    · have c4 := of_decide_eq_true c
      exact qb q (dayOk_no (by omega)).symm
    have c4 : ¬ (12 : Int) < m := fun z => c (decide_eq_true z)
    have e := dayOk_yes (d := d) (y := y) (m := m) (by omega) (by omega) (by omega) (by omega)
    refine ⟨_, rfl, _, _, rfl, rfl, _, rfl, ite2 (fun c => ?_) (fun c => ?_)⟩
    · have c5 := of_decide_eq_true c
      refine ⟨_, rfl, _, rfl, y, m, rfl, by omega, by omega, by omega, _, _, rfl, rfl, qb q ?_⟩
      rw [e, decide_eq_true (show 1 ≤ d by omega), Bool.true_and]
      exact decide_eq_decide.mpr (by omega)
    · have c5 : ¬ (1 : Int) ≤ d := fun z => c (decide_eq_true z)
      refine qb q ?_
      rw [e, decide_eq_false (show ¬ 1 ≤ d by omega), Bool.false_and]
theorem ok_is_minute (T : Txt K mg A) : FnOk P w K mg base CX0 1 A.f_is_minute A.d_is_minute ["minute"] (spN1 fun n => decide (n < 1440)) := by
  refine T.F_is_minute.ok sc_is_minute (fun vs H Q E h => ?_) (fun cdv Ar outer s H vs Q E hr h => ?_)
  · obtain ⟨n, rfl, _⟩ := h
    rfl
  · obtain ⟨n, rfl, q⟩ := h
    refine ⟨_, (pss_one (ps_ret (pe_chain op_le op_lt pe_int (pv 0) (pe_gi T.g_DAY_MINUTES)))), ?_⟩
    refine ⟨_, rfl, _, _, rfl, rfl, _, rfl, ite2 (fun c => ?_) (fun c => ?_)⟩
    · exact ⟨_, _, rfl, rfl, qb q (decide_eq_decide.mpr (by omega))⟩
    · exact absurd (decide_eq_true (by omega)) c
/-! ### day_number -/
def zs (l : List Nat) : List Int := l.map fun n : Nat => (n : Int)
theorem zs_v (l : List Nat) : (zs l).map V.int = nv l := by simp [zs, nv]
theorem zs_sum : ∀ l : List Nat, (zs l).sum = ((l.sum : Nat) : Int)
  | [] => rfl
  | n :: r => by
    have ih := zs_sum r
    show (n : Int) + (zs r).sum = ((n + r.sum : Nat) : Int)
    rw [ih]
    omega
theorem foldl_sum : ∀ (l : List Nat) (n : Nat), l.foldl (fun (a b : Nat) => a + b) n = n + l.sum
  | [], n => by simp
  | a :: r, n => by
    rw [List.foldl_cons, foldl_sum r, List.sum_cons]
    omega
theorem years_sum : ∀ k : Nat, ((List.range k).map fun i => dY (2000 + i)).sum = 365 * k + (k + 3) / 4
  | 0 => rfl
  | k + 1 => by
    rw [List.range_succ, List.map_append, List.sum_append, years_sum k]
    simp only [List.map_cons, List.map_nil, List.sum_cons, List.sum_nil, dY]
    split <;> omega
theorem dayOf_eq {y m d : Nat} (hd : 1 ≤ d) : (((List.range y).map fun i => dY (2000 + i)).sum + ((List.range (m - 1)).map fun k => Cl01.monthDays y (k + 1)).sum + d : Nat) = Cl01.dayOf y m d + 1 := by
  unfold Cl01.dayOf Cl01.monthStart
  rw [years_sum, foldl_sum]
  omega
def spDayNo : Sp := fun vs H Q _ => ∃ y m d : Nat, vs = [.int (y : Int), .int (m : Int), .int (d : Int)] ∧ dayOk y m d = true ∧ ∀ H', Same H H' → Q (.int (Cl01.dayOf (y - 2000) m d : Nat)) H'
theorem dayOk_of {y m d : Nat} (h : dayOk y m d = true) : 2000 ≤ y ∧ y ≤ 2099 ∧ 1 ≤ m ∧ m ≤ 12 ∧ 1 ≤ d ∧ d ≤ Cl01.monthDays (y - 2000) m := by
  simp [dayOk, Cl01.isDate] at h
  omega
theorem range_more {f : Nat → Nat} (i : Nat) : (List.range (i + 1)).map f = (List.range i).map f ++ [f i] := by rw [List.range_succ]; simp
theorem ok_day_number (T : Txt K mg A) : FnOk P w K mg base CX0 2 A.f_day_number A.d_day_number ["year", "month", "day"] spDayNo := by
  refine T.F_day_number.ok sc_day_number (fun vs H Q E h => ?_) (fun cdv Ar outer s H vs Q E hr h => ?_)
  · obtain ⟨y, m, d, rfl, _⟩ := h
    rfl
  · obtain ⟨y, m, d, rfl, hk, q⟩ := h
    have k := dayOk_of hk
    refine ⟨_, (pss_cons (ps_set (i := 3) sc_day_number.nd rfl (Or.inl rfl) (pe_callB (cr_sum (by rfl)) (by rfl) T.z_sum (by decide +kernel) (pa_cons (pe_lc (own := [("past", 5)]) (g := gName 5) (tt := tYes) (by rfl) sc_day_number.nd (pi_range2 (by rfl) T.z_range (pa_cons (pe_gi T.g_FIRST_YEAR) (pa_cons (pv 0) pa_nil))) (blkOk_by (own := [("past", 5)]) (N := ["year", "month", "day", "before_year", "before_month", "past"]) (sc := defScope s_day_number) (by decide +kernel)) (fun _ _ _ _ _ => pg_name (i := 5) sc_day_number.nd rfl (Or.inl rfl)) (fun _ _ _ _ _ => pts_nil) (fun _ _ _ _ _ => (pe_call (ok_days_of_year T) (hr.mono (by decide)) (by rfl) T.g_days_of_year T.F_days_of_year.kp (b_days_of_year T) .nil pass0 (pa_cons (pv 5) pa_nil)))) pa_nil)))
      (pss_cons (ps_set (i := 4) sc_day_number.nd rfl (Or.inl rfl) (pe_callB (cr_sum (by rfl)) (by rfl) T.z_sum (by decide +kernel) (pa_cons (pe_lc (own := [("past", 5)]) (g := gName 5) (tt := tYes) (by rfl) sc_day_number.nd (pi_range2 (by rfl) T.z_range (pa_cons pe_int (pa_cons (pv 1) pa_nil))) (blkOk_by (own := [("past", 5)]) (N := ["year", "month", "day", "before_year", "before_month", "past"]) (sc := defScope s_day_number) (by decide +kernel)) (fun _ _ _ _ _ => pg_name (i := 5) sc_day_number.nd rfl (Or.inl rfl)) (fun _ _ _ _ _ => pts_nil) (fun _ _ _ _ _ => (pe_call (ok_days_of_month T) (hr.mono (by decide)) (by rfl) T.g_days_of_month T.F_days_of_month.kp (b_days_of_month T) .nil pass0 (pa_cons (pv 0) (pa_cons (pv 5) pa_nil))))) pa_nil)))
      (pss_one (ps_ret (pe_op op_sub (pe_op op_add (pe_op op_add (pv 3) (pv 4)) (pv 2)) pe_int))))), ?_⟩
    refine ⟨_, rfl, 2000, (y : Int), rfl, ⟨by omega, by omega, by omega, by omega⟩, fun D nD => ?_⟩
    refine lc_range (lo := 2000) (n := ((y : Int) - 2000).toNat) (fun i H' => NewRow H H' D ((List.range i).map fun j => dY (2000 + j))) ⟨same_upd nD, nD, upd_same⟩ ?_ ?_
    · rintro i H' hi R
      refine ⟨rfl, _, rfl, 2000 + i, rfl, _, R.at_, ?_, ?_⟩
      · rw [nv_len, List.length_map, List.length_range]
        exact sz (by omega)
      · refine ⟨same_set R.sm nD, nD, ?_⟩
        rw [upd_same, range_more, nv_app]
        rfl
    · rintro H1 R
      refine ⟨D, zs ((List.range ((y : Int) - 2000).toNat).map fun j => dY (2000 + j)), rfl, SqL.of (by rw [zs_v]; exact R.at_), ?_⟩
      refine ⟨_, rfl, 1, (m : Int), rfl, ⟨by omega, by omega, by omega, by omega⟩, fun D2 nD2 => ?_⟩
      refine lc_range (lo := 1) (n := ((m : Int) - 1).toNat) (fun i H' => NewRow H1 H' D2 ((List.range i).map fun j => Cl01.monthDays (y - 2000) (j + 1))) ⟨same_upd nD2, nD2, upd_same⟩ ?_ ?_
      · rintro i H' hi R2
        refine ⟨rfl, _, rfl, _, rfl, y, i + 1, ?_, by omega, by omega, by omega, _, R2.at_, ?_, ?_⟩
        · show [V.int (y : Int), V.int (1 + (i : Int))] = [V.int (y : Int), V.int ((i + 1 : Nat) : Int)]
          rw [show (1 : Int) + (i : Int) = ((i + 1 : Nat) : Int) by omega]
        · rw [nv_len, List.length_map, List.length_range]
          exact sz (by omega)
        · refine ⟨same_set R2.sm nD2, nD2, ?_⟩
          rw [upd_same, range_more, nv_app]
          rfl
      · rintro H2 R2
        refine ⟨D2, zs ((List.range ((m : Int) - 1).toNat).map fun j => Cl01.monthDays (y - 2000) (j + 1)), rfl, SqL.of (by rw [zs_v]; exact R2.at_), ?_⟩
        refine ⟨_, rfl, _, rfl, _, _, rfl, rfl, _, rfl, _, _, rfl, rfl, _, _, rfl, rfl, qi (q H2 (R.sm.trans R2.sm)) ?_⟩
        rw [zs_sum, zs_sum]
        have e := dayOf_eq (y := y - 2000) (m := m) (d := d) (by omega)
        rw [show ((y : Int) - 2000).toNat = y - 2000 by omega, show ((m : Int) - 1).toNat = m - 1 by omega]
        omega
/-! ### day_parts -/
def yS (y : Nat) : Nat := 365 * y + (y + 3) / 4
theorem yS_next (y : Nat) : yS (y + 1) = yS y + dY (2000 + y) := by
  unfold yS dY
  split <;> omega
theorem yearOf_is {n y : Nat} (h1 : yS y ≤ n) (h2 : n < yS (y + 1)) : Cl01.yearOf n = y := by
  unfold yS at h1 h2
  unfold Cl01.yearOf
  split <;> omega
theorem ms_one (y : Nat) : Cl01.monthStart y 1 = yS y := by simp [Cl01.monthStart, yS]
theorem ms_next {y m : Nat} (h : 1 ≤ m) : Cl01.monthStart y (m + 1) = Cl01.monthStart y m + Cl01.monthDays y m := by
  unfold Cl01.monthStart
  rw [foldl_sum, foldl_sum]
  obtain ⟨k, rfl⟩ : ∃ k, m = k + 1 := ⟨m - 1, by omega⟩
  rw [show k + 1 + 1 - 1 = k + 1 by omega, show k + 1 - 1 = k by omega, range_more, List.sum_append]
  simp
  omega
theorem ms_end (y : Nat) : Cl01.monthStart y 13 = yS (y + 1) := by
  unfold Cl01.monthStart yS
  rw [foldl_sum]
  cases c : Cl01.leap y with
  | true =>
    have : ((List.range (13 - 1)).map fun k => Cl01.monthDays y (k + 1)).sum = 366 := by simp [List.range_succ, Cl01.monthDays, c]
    rw [this]
    simp [Cl01.leap] at c
    omega
  | false =>
    have : ((List.range (13 - 1)).map fun k => Cl01.monthDays y (k + 1)).sum = 365 := by simp [List.range_succ, Cl01.monthDays, c]
    rw [this]
    simp [Cl01.leap] at c
    omega
theorem ms_mono {y : Nat} : ∀ {b a : Nat}, 1 ≤ a → a ≤ b → Cl01.monthStart y a ≤ Cl01.monthStart y b
  | 0, a, h1, h2 => by omega
  | b + 1, a, h1, h2 => by
    by_cases e : a = b + 1
    · rw [e]
      exact Nat.le_refl _
    · have := ms_mono (y := y) (b := b) (a := a) h1 (by omega)
      rw [ms_next (by omega)]
      omega
theorem count_lt : ∀ m : Nat, m ≤ 12 → ((List.range 12).filter fun k => decide (k < m)).length = m := by
  intro m h
  have : m = 0 ∨ m = 1 ∨ m = 2 ∨ m = 3 ∨ m = 4 ∨ m = 5 ∨ m = 6 ∨ m = 7 ∨ m = 8 ∨ m = 9 ∨ m = 10 ∨ m = 11 ∨ m = 12 := by omega
  rcases this with rfl | rfl | rfl | rfl | rfl | rfl | rfl | rfl | rfl | rfl | rfl | rfl | rfl <;> decide
theorem monthOf_is {n y m : Nat} (hy : Cl01.yearOf n = y) (h1 : 1 ≤ m) (h2 : m ≤ 12) (h3 : Cl01.monthStart y m ≤ n) (h4 : n < Cl01.monthStart y (m + 1)) : Cl01.monthOf n = m := by
  unfold Cl01.monthOf
  rw [hy]
  have e : (List.range 12).filter (fun k => decide (Cl01.monthStart y (k + 1) ≤ n)) = (List.range 12).filter fun k => decide (k < m) := by
    refine List.filter_congr fun k _ => decide_eq_decide.mpr ⟨fun h => ?_, fun h => ?_⟩
    · by_cases z : k < m
      · exact z
      · have := ms_mono (y := y) (a := m + 1) (b := k + 1) (by omega) (by omega)
        omega
    · have := ms_mono (y := y) (a := k + 1) (b := m) (by omega) (by omega)
      omega
  rw [e]
  exact count_lt m h2
def spParts : Sp := fun vs H Q _ => ∃ n : Nat, vs = [.int (n : Int)] ∧ n < 36525 ∧ ∀ p, H p = none → Q (.ref p) (upd H p (.tup [.int ((2000 + Cl01.yearOf n : Nat) : Int), .int (Cl01.monthOf n : Int), .int (Cl01.domOf n : Int)]))
theorem ok_day_parts (T : Txt K mg A) : FnOk P w K mg base CX0 2 A.f_day_parts A.d_day_parts ["number"] spParts := by
  refine T.F_day_parts.ok sc_day_parts (fun vs H Q E h => ?_) (fun cdv Ar outer s H vs Q E hr h => ?_)
  · obtain ⟨n, rfl, _⟩ := h
    rfl
  · obtain ⟨n, rfl, hn, q⟩ := h
    refine ⟨_, (pss_cons (ps_set (i := 1) sc_day_parts.nd rfl (Or.inl rfl) (pe_gi T.g_FIRST_YEAR))
      (pss_cons (ps_set (i := 2) sc_day_parts.nd rfl (Or.inl rfl) (pv 0))
      (pss_cons (ps_while PassesOwn.never (pt_cmpR op_ge (pv 2) (pe_call (ok_days_of_year T) (hr.mono (by decide)) (by rfl) T.g_days_of_year T.F_days_of_year.kp (b_days_of_year T) .nil pass0 (pa_cons (pv 1) pa_nil)) (nomark _))
        (pss_cons (ps_aug (i := 2) sc_day_parts.nd rfl (Or.inl rfl) (pe_call (ok_days_of_year T) (hr.mono (by decide)) (by rfl) T.g_days_of_year T.F_days_of_year.kp (b_days_of_year T) .nil pass0 (pa_cons (pv 1) pa_nil)) ip_sub)
        (pss_one (ps_aug (i := 1) sc_day_parts.nd rfl (Or.inl rfl) pe_int ip_add))))
      (pss_cons (ps_set (i := 3) sc_day_parts.nd rfl (Or.inl rfl) pe_int)
      (pss_cons (ps_while PassesOwn.never (pt_cmpR op_ge (pv 2) (pe_call (ok_days_of_month T) (hr.mono (by decide)) (by rfl) T.g_days_of_month T.F_days_of_month.kp (b_days_of_month T) .nil pass0 (pa_cons (pv 1) (pa_cons (pv 3) pa_nil))) (nomark _))
        (pss_cons (ps_aug (i := 2) sc_day_parts.nd rfl (Or.inl rfl) (pe_call (ok_days_of_month T) (hr.mono (by decide)) (by rfl) T.g_days_of_month T.F_days_of_month.kp (b_days_of_month T) .nil pass0 (pa_cons (pv 1) (pa_cons (pv 3) pa_nil))) ip_sub)
        (pss_one (ps_aug (i := 3) sc_day_parts.nd rfl (Or.inl rfl) pe_int ip_add))))
      (pss_one (ps_ret (pe_tup (pa_cons (pv 1) (pa_cons (pv 3) (pa_cons (pe_op op_add (pv 2) pe_int) pa_nil))))))))))), ?_⟩
    refine ⟨_, rfl, fun m σ H' => ∃ y : Nat, m = n - yS y ∧ yS y ≤ n ∧ σ = [some (.int (n : Int)), some (.int ((2000 + y : Nat) : Int)), some (.int ((n - yS y : Nat) : Int)), none] ∧ H' = H, ⟨_, 0, rfl, by unfold yS; omega, rfl, rfl⟩, ?_⟩
    rintro m σ H' ⟨y, rfl, hy, rfl, rfl⟩
    have en := yS_next y
    have dp : 365 ≤ dY (2000 + y) := by unfold dY; split <;> omega
    refine ⟨_, rfl, _, rfl, 2000 + y, rfl, _, _, rfl, rfl, _, rfl, ite2 (fun c => ?_) (fun c => ?_)⟩
    · have c1 := of_decide_eq_true c
      refine ⟨fun σ' H'' => σ' = [some (.int (n : Int)), some (.int ((2000 + (y + 1) : Nat) : Int)), some (.int ((n - yS (y + 1) : Nat) : Int)), none] ∧ H'' = H', ?_, ?_⟩
      · rintro σ' H'' ⟨h1, h2⟩
        exact ⟨_, by omega, y + 1, rfl, by omega, h1, h2⟩
      · refine ⟨_, rfl, _, rfl, 2000 + y, rfl, _, _, rfl, rfl, _, rfl, _, _, rfl, rfl, ?_, rfl⟩
        show [some (V.int (n : Int)), some (V.int (((2000 + y : Nat) : Int) + 1)), some (V.int (((n - yS y : Nat) : Int) - (dY (2000 + y) : Int))), none] = _
        rw [show ((2000 + y : Nat) : Int) + 1 = ((2000 + (y + 1) : Nat) : Int) by omega, show ((n - yS y : Nat) : Int) - (dY (2000 + y) : Int) = ((n - yS (y + 1) : Nat) : Int) by omega]
    · have c1 : ¬ (dY (2000 + y) : Int) ≤ ((n - yS y : Nat) : Int) := fun z => c (decide_eq_true z)
      have hlt : n < yS (y + 1) := by omega
      have ey := yearOf_is hy hlt
      have e13 := ms_end y
      refine ⟨fun m σ H'' => ∃ k : Nat, m = n - Cl01.monthStart y k ∧ 1 ≤ k ∧ k ≤ 12 ∧ Cl01.monthStart y k ≤ n ∧ σ = [some (.int (n : Int)), some (.int ((2000 + y : Nat) : Int)), some (.int ((n - Cl01.monthStart y k : Nat) : Int)), some (.int (k : Int))] ∧ H'' = H', ⟨_, 1, rfl, by omega, by omega, by rw [ms_one]; exact hy, by rw [ms_one]; rfl, rfl⟩, ?_⟩
      rintro m σ H'' ⟨k, rfl, k1, k2, hk, rfl, rfl⟩
      have ek := ms_next (y := y) k1
      have mp : 28 ≤ Cl01.monthDays y k := by unfold Cl01.monthDays; split <;> (try split) <;> omega
      refine ⟨_, rfl, _, rfl, _, rfl, 2000 + y, k, rfl, by omega, k1, k2, _, _, rfl, rfl, _, rfl, ite2 (fun c => ?_) (fun c => ?_)⟩
      · have c2 := of_decide_eq_true c
        rw [show 2000 + y - 2000 = y by omega] at c2
        have k3 : k + 1 ≤ 12 := by
          by_cases z : k = 12
          · subst z
            have ek2 : Cl01.monthStart y 13 = Cl01.monthStart y 12 + Cl01.monthDays y 12 := ek
            omega
          · omega
        refine ⟨fun σ' H3 => σ' = [some (.int (n : Int)), some (.int ((2000 + y : Nat) : Int)), some (.int ((n - Cl01.monthStart y (k + 1) : Nat) : Int)), some (.int ((k + 1 : Nat) : Int))] ∧ H3 = H'', ?_, ?_⟩
        · rintro σ' H3 ⟨h1, h2⟩
          exact ⟨_, by omega, k + 1, rfl, by omega, k3, by omega, h1, h2⟩
        · refine ⟨_, rfl, _, rfl, _, rfl, 2000 + y, k, rfl, by omega, k1, k2, _, _, rfl, rfl, _, rfl, _, _, rfl, rfl, ?_, rfl⟩
          show [some (V.int (n : Int)), some (V.int ((2000 + y : Nat) : Int)), some (V.int (((n - Cl01.monthStart y k : Nat) : Int) - (Cl01.monthDays (2000 + y - 2000) k : Int))), some (V.int ((k : Int) + 1))] = _
          rw [show 2000 + y - 2000 = y by omega, show ((n - Cl01.monthStart y k : Nat) : Int) - (Cl01.monthDays y k : Int) = ((n - Cl01.monthStart y (k + 1) : Nat) : Int) by omega]
          rfl
      · have c2 : ¬ (Cl01.monthDays (2000 + y - 2000) k : Int) ≤ ((n - Cl01.monthStart y k : Nat) : Int) := fun z => c (decide_eq_true z)
        rw [show 2000 + y - 2000 = y by omega] at c2
        have em := monthOf_is ey k1 k2 hk (by omega)
        refine ⟨_, rfl, _, rfl, _, rfl, _, _, rfl, rfl, (by show 3 ≤ sizeLine; decide), fun p np => ?_⟩
        have := q p np
        unfold Cl01.domOf at this
        rw [em, ey] at this
        exact this
/-! ### tell_time -/
theorem two_all : ∀ n : Fin 100, (Txt.zfill (toString ((n.val : Nat) : Int)) 2).cps.toList = Cl09.fixed n.val 2 := by decide +kernel
theorem two_is {n : Nat} (h : n < 100) : (Txt.zfill (toString (n : Int)) 2).cps.toList = Cl09.fixed n 2 := two_all ⟨n, h⟩
theorem year_all : ∀ n : Fin 100, (Str.ofString (toString (((2000 + n.val : Nat)) : Int))).cps.toList = Cl09.fixed (2000 + n.val) 4 := by decide +kernel
theorem year_is {n : Nat} (h : n < 100) : (Str.ofString (toString (((2000 + n : Nat)) : Int))).cps.toList = Cl09.fixed (2000 + n) 4 := year_all ⟨n, h⟩
theorem log_small {n : Int} (h : n.natAbs < 2 ^ 64) : n.natAbs.log2 < 1920 := by
  by_cases z : n.natAbs = 0
  · rw [z]
    decide
  · have := (Nat.log2_lt z).mpr h
    omega
def spTwo : Sp := fun vs H Q _ => ∃ n : Nat, vs = [.int (n : Int)] ∧ n < 100 ∧ ∀ z : Str, z.cps.toList = Cl09.fixed n 2 → Q (.str z) H
theorem ok_two_digits (T : Txt K mg A) : FnOk P w K mg base CX0 1 A.f_two_digits A.d_two_digits ["number"] spTwo := by
  refine T.F_two_digits.ok sc_two_digits (fun vs H Q E h => ?_) (fun cdv Ar outer s H vs Q E hr h => ?_)
  · obtain ⟨n, rfl, _⟩ := h
    rfl
  · obtain ⟨n, rfl, hn, q⟩ := h
    refine ⟨_, (pss_one (ps_ret (pe_bm PySem.F.plainAttrs_str PySem.F.slot_str_zfill PySem.F.type_str_zfill mt_zfill (pe_callTy call_str_int (by rfl) T.z_str (by decide +kernel) (pa_cons (pv 0) pa_nil)) (pa_cons pe_int pa_nil)))), ?_⟩
    exact ⟨_, rfl, _, rfl, log_small (by omega), rfl, _, _, rfl, rfl, rfl, q _ (two_is hn)⟩
theorem yearOf_lt {n : Nat} (h : n < 36525) : Cl01.yearOf n < 100 := by
  unfold Cl01.yearOf
  split <;> omega
theorem yS_of (n : Nat) : yS (Cl01.yearOf n) ≤ n ∧ n < yS (Cl01.yearOf n + 1) := by
  unfold yS Cl01.yearOf
  split <;> omega
theorem month_of (n : Nat) : 1 ≤ Cl01.monthOf n ∧ Cl01.monthOf n ≤ 12 ∧ Cl01.monthStart (Cl01.yearOf n) (Cl01.monthOf n) ≤ n ∧ n < Cl01.monthStart (Cl01.yearOf n) (Cl01.monthOf n + 1) := by
  have h := yS_of n
  have go : ∀ k : Nat, k ≤ 12 → n < Cl01.monthStart (Cl01.yearOf n) (k + 1) → ∃ m, 1 ≤ m ∧ m ≤ 12 ∧ Cl01.monthStart (Cl01.yearOf n) m ≤ n ∧ n < Cl01.monthStart (Cl01.yearOf n) (m + 1) := by
    intro k
    induction k with
    | zero =>
      intro _ hlt
      rw [ms_one] at hlt
      omega
    | succ k ih =>
      intro hk hlt
      by_cases z : n < Cl01.monthStart (Cl01.yearOf n) (k + 1)
      · exact ih (by omega) z
      · exact ⟨k + 1, by omega, hk, by omega, hlt⟩
  obtain ⟨m, h1, h2, h3, h4⟩ := go 12 (Nat.le_refl _) (by rw [ms_end]; exact h.2)
  have e := monthOf_is rfl h1 h2 h3 h4
  rw [e]
  exact ⟨h1, h2, h3, h4⟩
theorem dom_lt (n : Nat) : Cl01.domOf n < 100 := by
  have h := month_of n
  rw [ms_next h.1] at h
  have mp : Cl01.monthDays (Cl01.yearOf n) (Cl01.monthOf n) ≤ 31 := by unfold Cl01.monthDays; split <;> (try split) <;> omega
  unfold Cl01.domOf
  omega
def spTime : Sp := fun vs H Q _ => ∃ d m : Nat, vs = [.int (d : Int), .int (m : Int)] ∧ d < 36525 ∧ m < 1440 ∧ ∀ H' p, NewRow H H' p (Cl09.timeTold d m) → Q (.ref p) H'
theorem app_list (a b : Str) : (a ++ b).cps.toList = a.cps.toList ++ b.cps.toList := by
  show (a.cps ++ b.cps).toList = _
  simp
theorem len_list (a : Str) : a.length = a.cps.toList.length := by
  show a.cps.size = _
  simp
theorem app_len (a b : Str) : (a ++ b).length = a.length + b.length := by rw [len_list, len_list, len_list, app_list, List.length_append]
theorem fixed_len (n k : Nat) : (Cl09.fixed n k).length = k := by simp [Cl09.fixed]
theorem ok_tell_time (T : Txt K mg A) : FnOk P w K mg base CX0 3 A.f_tell_time A.d_tell_time ["day", "minute"] spTime := by
  refine T.F_tell_time.ok sc_tell_time (fun vs H Q E h => ?_) (fun cdv Ar outer s H vs Q E hr h => ?_)
  · obtain ⟨d, m, rfl, _⟩ := h
    rfl
  · obtain ⟨d, m, rfl, hd, hm, q⟩ := h
    refine ⟨_, (pss_cons (ps_set (i := 2) sc_tell_time.nd rfl (Or.inl rfl) (pe_call (ok_day_parts T) (hr.mono (by decide)) (by rfl) T.g_day_parts T.F_day_parts.kp (b_day_parts T) .nil pass0 (pa_cons (pv 0) pa_nil)))
      (pss_cons (ps_set (i := 3) sc_tell_time.nd rfl (Or.inl rfl) (pe_ix ix_tup (pv 2) pe_int (fun _ _ => rfl)))
      (pss_cons (ps_set (i := 4) sc_tell_time.nd rfl (Or.inl rfl) (pe_call (ok_two_digits T) (hr.mono (by decide)) (by rfl) T.g_two_digits T.F_two_digits.kp (b_two_digits T) .nil pass0 (pa_cons (pe_ix ix_tup (pv 2) pe_int (fun _ _ => rfl)) pa_nil)))
      (pss_cons (ps_set (i := 5) sc_tell_time.nd rfl (Or.inl rfl) (pe_call (ok_two_digits T) (hr.mono (by decide)) (by rfl) T.g_two_digits T.F_two_digits.kp (b_two_digits T) .nil pass0 (pa_cons (pe_ix ix_tup (pv 2) pe_int (fun _ _ => rfl)) pa_nil)))
      (pss_cons (ps_set (i := 6) sc_tell_time.nd rfl (Or.inl rfl) (pe_call (ok_two_digits T) (hr.mono (by decide)) (by rfl) T.g_two_digits T.F_two_digits.kp (b_two_digits T) .nil pass0 (pa_cons (pe_op op_fdiv (pv 1) pe_int) pa_nil)))
      (pss_cons (ps_set (i := 7) sc_tell_time.nd rfl (Or.inl rfl) (pe_call (ok_two_digits T) (hr.mono (by decide)) (by rfl) T.g_two_digits T.F_two_digits.kp (b_two_digits T) .nil pass0 (pa_cons (pe_op op_mod (pv 1) pe_int) pa_nil)))
      (pss_one (ps_ret (pe_call (ok_row_of T) (hr.mono (by decide)) (by rfl) T.g_row_of T.F_row_of.kp (b_row_of T) .nil pass0 (pa_cons (pe_joined (PJ.cons (pe_fmt (pv 3)) (PJ.cons pe_str (PJ.cons (pe_fmt (pv 4)) (PJ.cons pe_str (PJ.cons (pe_fmt (pv 5)) (PJ.cons pe_str (PJ.cons (pe_fmt (pv 6)) (PJ.cons pe_str (PJ.cons (pe_fmt (pv 7)) PJ.nil)))))))))) pa_nil)))))))))), ?_⟩
    refine ⟨_, rfl, d, rfl, hd, fun t nt => ?_⟩
    have s1 : Same H (upd H t (.tup [.int ((2000 + Cl01.yearOf d : Nat) : Int), .int (Cl01.monthOf d : Int), .int (Cl01.domOf d : Int)])) := same_upd nt
    have ht := SqT.of (K := K) (H := upd H t (.tup [.int ((2000 + Cl01.yearOf d : Nat) : Int), .int (Cl01.monthOf d : Int), .int (Cl01.domOf d : Int)])) upd_same
    have mo := month_of d
    refine ⟨_, rfl, t, _, _, _, rfl, rfl, ht, atI_nat (j := 0) rfl, ?_⟩
    refine ⟨_, rfl, t, _, _, _, rfl, rfl, ht, atI_nat (j := 1) rfl, Cl01.monthOf d, rfl, by omega, fun z1 e1 => ?_⟩
    refine ⟨_, rfl, t, _, _, _, rfl, rfl, ht, atI_nat (j := 2) rfl, Cl01.domOf d, rfl, dom_lt d, fun z2 e2 => ?_⟩
    refine ⟨_, rfl, _, _, rfl, rfl, ⟨by decide, by decide⟩, m / 60, rfl, by omega, fun z3 e3 => ?_⟩
    refine ⟨_, rfl, _, _, rfl, rfl, (by show (0 : Int) < 60; decide), m % 60, rfl, by omega, fun z4 e4 => ?_⟩
    have l1 : z1.length = 2 := by rw [len_list, e1, fixed_len]
    have l2 : z2.length = 2 := by rw [len_list, e2, fixed_len]
    have l3 : z3.length = 2 := by rw [len_list, e3, fixed_len]
    have l4 : z4.length = 2 := by rw [len_list, e4, fixed_len]
    have ey := year_is (yearOf_lt hd)
    have yl := yearOf_lt hd
    have ly : (Str.ofString (toString (((2000 + Cl01.yearOf d : Nat)) : Int))).length = 4 := by rw [len_list, ey, fixed_len]
    have le : Str.empty.length = 0 := rfl
    have ld : (Str.ofString "-").length = 1 := by decide +kernel
    have lb : (Str.ofString " ").length = 1 := by decide +kernel
    have lc : (Str.ofString ":").length = 1 := by decide +kernel
    have sl : 100 ≤ sizeLine := by decide
    refine ⟨_, rfl, .inr ⟨_, rfl, log_small (by omega), _, rfl, (by rw [app_len, le, ly]; omega), ?_⟩⟩
    refine ⟨_, rfl, (by rw [app_len, app_len, le, ly, ld]; omega), ?_⟩
    refine ⟨_, rfl, .inl ⟨_, rfl, by omega, _, rfl, (by rw [app_len, app_len, app_len, le, ly, ld, l1]; omega), ?_⟩⟩
    refine ⟨_, rfl, (by rw [app_len, app_len, app_len, app_len, le, ly, ld, l1]; omega), ?_⟩
    refine ⟨_, rfl, .inl ⟨_, rfl, by omega, _, rfl, (by rw [app_len, app_len, app_len, app_len, app_len, le, ly, ld, l1, l2]; omega), ?_⟩⟩
    refine ⟨_, rfl, (by rw [app_len, app_len, app_len, app_len, app_len, app_len, le, ly, ld, l1, l2, lb]; omega), ?_⟩
    refine ⟨_, rfl, .inl ⟨_, rfl, by omega, _, rfl, (by rw [app_len, app_len, app_len, app_len, app_len, app_len, app_len, le, ly, ld, l1, l2, lb, l3]; omega), ?_⟩⟩
    refine ⟨_, rfl, (by rw [app_len, app_len, app_len, app_len, app_len, app_len, app_len, app_len, le, ly, ld, l1, l2, lb, l3, lc]; omega), ?_⟩
    refine ⟨_, rfl, .inl ⟨_, rfl, by omega, _, rfl, (by rw [app_len, app_len, app_len, app_len, app_len, app_len, app_len, app_len, app_len, le, ly, ld, l1, l2, lb, l3, lc, l4]; omega), ?_⟩⟩
    refine ⟨_, rfl, ?_, fun H2 p R => q H2 p ⟨s1.trans R.sm, s1.free R.nw, ?_⟩⟩
    · show (Str.length _) ≤ 1000
      rw [app_len, app_len, app_len, app_len, app_len, app_len, app_len, app_len, app_len, le, ly, ld, l1, l2, lb, l3, lc, l4]
      decide
    · rw [R.at_]
      have e : ∀ z : List Nat, z = Cl09.timeTold d m → some (HO.lst (nv z)) = some (HO.lst (nv (Cl09.timeTold d m))) := fun z h => by rw [h]
      refine e _ ?_
      rw [app_list, app_list, app_list, app_list, app_list, app_list, app_list, app_list, app_list, ey, e1, e2, e3, e4]
      unfold Cl09.timeTold
      have d1 : (Str.ofString "-").cps.toList = [45] := by decide +kernel
      have d2 : (Str.ofString " ").cps.toList = [32] := by decide +kernel
      have d3 : (Str.ofString ":").cps.toList = [58] := by decide +kernel
      have d4 : Str.empty.cps.toList = [] := rfl
      rw [d1, d2, d3, d4]
      simp
end
end Ct

set_option Elab.async false
set_option linter.all false
set_option maxRecDepth 100000
set_option maxHeartbeats 4000000
/-! zip of a text and a list, walked by a for. -/
namespace Ct
open PySem PySem.Spec PyProof.Rows L2
section
variable {prog : Program} {w : World} {A : Around} {E : Value → Shared → Prop} {s : Shared}
abbrev zs1 (h : Heap) (x : Str) (t : Tok) : Heap := h.push { cls := .type (strIterType x), data := .fields #[.str x t, .int 0 0] }
abbrev zs2 (h : Heap) (x : Str) (t : Tok) (l2 : Addr) : Heap := (zs1 h x t).push { cls := .type "list_iterator", data := .fields #[.ref l2, .int 0 0] }
abbrev zs3 (h : Heap) (x : Str) (t : Tok) (l2 : Addr) : Heap := (zs2 h x t l2).push { cls := .type "tuple", data := .seq #[.ref h.objs.size, .ref (zs1 h x t).objs.size] }
abbrev zs4 (h : Heap) (x : Str) (t : Tok) (l2 : Addr) : Heap := (zs3 h x t l2).push { cls := .type "tuple", data := .seq #[.none, .none] }
abbrev zs5 (h : Heap) (x : Str) (t : Tok) (l2 : Addr) : Heap := (zs4 h x t l2).push { cls := .type "zip", data := .fields #[.none, .bool false, .bool false, .ref (zs2 h x t l2).objs.size, .ref (zs3 h x t l2).objs.size] }
theorem meets_zip_newS (x : Str) (t : Tok) (l2 : Addr) (ys : Array Value) :
    Meets (Builtin.«zip.__new__» ⟨[.type "zip", .str x t, .ref l2], []⟩) (fun _ R s => s.heap.IsList l2 ys ∧
      R (.ok (.ret (.ref (zs4 s.heap x t l2).objs.size))) { s with heap := zs5 s.heap x t l2 }) :=
  .of_wp fun prog w A R s h => by
    obtain ⟨hp, g, d, tk, os⟩ := s; obtain ⟨hl2, h⟩ := h
    have hsub := sub_zip
    have hL2 : Heap.IsList (Shared.heap ⟨zs1 hp x t, g, d, tk, os⟩) l2 ys := Heap.IsList.push hl2 _
    wp_walk using wpAny_pyIter_strU, wpAny_pyIter_list hL2
    exact ⟨_, rfl, h⟩
theorem call_zip_S {x : Str} {t : Tok} {l2 : Addr} {ys : Array Value} {Q : Value → Shared → Prop} (hl2 : s.heap.IsList l2 ys)
    (h : ∀ h', IsZip h' (s.heap.objs.size + 4) (s.heap.objs.size + 2) (s.heap.objs.size + 3) .none → IsPair h' (s.heap.objs.size + 2) (.ref s.heap.objs.size) (.ref (s.heap.objs.size + 1)) →
      IsPair h' (s.heap.objs.size + 3) .none .none → h'.IsStrIter s.heap.objs.size (strIterType x) x t 0 → h'.IsListIter (s.heap.objs.size + 1) l2 0 →
      (∀ c o, s.heap.get? c = some o → h'.get? c = some o) → Q (.ref (s.heap.objs.size + 4)) { s with heap := h' }) :
    wpAny (model prog w) A (call (.type "zip") [.str x t, .ref l2]) Q E s := by
  refine callType_new F.called_zip (by decide) (F.typeCall_zip_2 _ _) (F.newCall_zip_2 _ _) (fun obj => F.args_object_init_3 obj _ _) F.entry_zip_new
    (meets_zip_newS x t l2 ys) ⟨hl2, ?_⟩
  have z1 : (zs1 s.heap x t).objs.size = s.heap.objs.size + 1 := Heap.size_push ..
  have z2 : (zs2 s.heap x t l2).objs.size = s.heap.objs.size + 2 := by rw [Heap.size_push, z1]
  have z3 : (zs3 s.heap x t l2).objs.size = s.heap.objs.size + 3 := by rw [Heap.size_push, z2]
  have z4 : (zs4 s.heap x t l2).objs.size = s.heap.objs.size + 4 := by rw [Heap.size_push, z3]
  have g5 : (zs5 s.heap x t l2).get? (zs4 s.heap x t l2).objs.size = some _ := Heap.get?_push_size _ rfl
  have g4 : (zs5 s.heap x t l2).get? (zs3 s.heap x t l2).objs.size = some _ := Heap.get?_push_of_some _ (Heap.get?_push_size _ rfl)
  have g3 : (zs5 s.heap x t l2).get? (zs2 s.heap x t l2).objs.size = some _ := Heap.get?_push_of_some _ (Heap.get?_push_of_some _ (Heap.get?_push_size _ rfl))
  have g2 : (zs5 s.heap x t l2).get? (zs1 s.heap x t).objs.size = some _ := Heap.get?_push_of_some _ (Heap.get?_push_of_some _ (Heap.get?_push_of_some _ (Heap.get?_push_size _ rfl)))
  have g1 : (zs5 s.heap x t l2).get? s.heap.objs.size = some _ := Heap.get?_push_of_some _ (Heap.get?_push_of_some _ (Heap.get?_push_of_some _ (Heap.get?_push_of_some _ (Heap.get?_push_size _ rfl))))
  show _ ∧ _
  rw [z2, z3, z4] at g5
  rw [z1, z2] at g3
  rw [z3] at g4
  rw [z1] at g2
  rw [z4]
  exact ⟨⟨_, g5, rfl⟩, h _ g5 g3 g4 ⟨_, g1, rfl, rfl⟩ ⟨_, g2, rfl, rfl⟩ fun c o x =>
    Heap.get?_push_of_some _ (Heap.get?_push_of_some _ (Heap.get?_push_of_some _ (Heap.get?_push_of_some _ (Heap.get?_push_of_some _ x))))⟩
end
/-- the turns of zip(text, list) -/
def ItzS (K : PySem.W.Frag) (x : Str) (b : Addr) : It :=
  ⟨fun i H => ∃ (ys : List V) (c : Nat) (y : V), SqL K H b ys ∧ x.cps[i]? = some c ∧ ys[i]? = some y,
    fun i H v H' => ∃ T c y, v = .ref T ∧ H T = none ∧ H' = upd H T (.tup [.str ⟨#[c]⟩, y]) ∧ x.cps[i]? = some c ∧ ∀ ys, SqL K H b ys → ys[i]? = some y,
    fun i H => ∃ ys : List V, SqL K H b ys ∧ i ≤ x.cps.size ∧ i ≤ ys.length ∧ (i = x.cps.size ∨ i = ys.length)⟩
theorem turn_zipS {P : Program} {w : World} {K : PySem.W.Frag} {elts : List Expr} {kk : Nat} {tpos : Pos} {b z TI TO i1 i2 : Addr} {x : Str} {t : Tok} (D : ZipSep2 z TI TO i1 i2 [i1] [i2, b]) (hbi : b ≠ i2) :
    Turn P w K (.Tuple elts kk tpos) (ItzS K x b) [z, TI, TO, i1, i2] z (fun i h => IsZip h z TI TO .none ∧ IsTupOf2 h TI (.ref i1) (.ref i2) ∧ (∃ x y, IsTupOf2 h TO x y) ∧ h.IsStrIter i1 (strIterType x) x t i ∧ h.IsListIter i2 b i) where
  mem := by simp
  obj := fun i h st c hc => by
    obtain ⟨hz, hTI, ⟨x, y, hTO⟩, ⟨o1, e1, _, d1⟩, ⟨o2, e2, _, d2⟩⟩ := st
    have e' : c = z ∨ c = TI ∨ c = TO ∨ c = i1 ∨ c = i2 := by simpa using hc
    rcases e' with q | q | q | q | q
    · rw [q]; exact ⟨_, hz, fun v q => nomatch q⟩
    · rw [q]; exact ⟨_, hTI, fun v q => nomatch q⟩
    · rw [q]; exact ⟨_, hTO, fun v q => nomatch q⟩
    · rw [q]; exact ⟨o1, e1, fun v q => by rw [d1] at q; cases q⟩
    · rw [q]; exact ⟨o2, e2, fun v q => by rw [d2] at q; cases q⟩
  keep := fun i h h' st k => by
    obtain ⟨hz, hTI, ⟨x, y, hTO⟩, ⟨o1, e1, r1⟩, h2⟩ := st
    exact ⟨k z (by simp) _ hz, k TI (by simp) _ hTI, ⟨x, y, k TO (by simp) _ hTO⟩, ⟨o1, k i1 (by simp) _ e1, r1⟩, h2.at fun o q => k i2 (by simp) o q⟩
  item := by
    intro X hP hw hK hc i pins s σ H E I hf st hg
    subst hP hw hK
    obtain ⟨hz, hTI, ⟨x0, y0, hTO⟩, h1, h2⟩ := st
    obtain ⟨ys, c, y, hqy, hx, hy⟩ := hg
    obtain ⟨its2, rv2, p2, _⟩ := I.list hqy
    obtain ⟨u2, hu2, ru2⟩ := rv2.get hy
    have hzl : z < s.heap.objs.size := Heap.lt_size hz
    have hh : X.A.in1.handled = none := I.ok.hd hc
    have hl1 : i < x.cps.size := (Array.getElem?_eq_some_iff.mp hx).1
    have hl2 : i < its2.toArray.size := by
      have := (List.getElem?_eq_some_iff.mp hu2).1
      simpa using this
    refine wpAny_pyNext_zipD2_item D (Draws.text hh i1 x t) (Draws.list hh i2 b hbi its2.toArray) hz hTI hTO h1 ⟨h2, p2.isList⟩ hl1 hl2 fun x1 x2 h' tk q1 q2 z' TO' h1' h2' hT hsz hk => ?_
    obtain ⟨c', u', hc', rfl⟩ := q1
    have ecc : c' = c := Option.some.inj (hc'.symm.trans hx)
    subst ecc
    have e2 : x2 = u2 := by
      have : its2[i]? = some x2 := by simpa using q2
      exact Option.some.inj (this.symm.trans hu2)
    subst e2
    refine ⟨_, rfl, wpAny_letOwnedTupleGo_zip (s := { s with heap := h', toks := tk }) z' fun h'' z'' sb => ?_⟩
    have hT2 : h''.get? s.heap.objs.size = some { cls := .type "tuple", data := .seq #[.str ⟨#[c']⟩ u', x2] } := (sb.2 _ (Nat.ne_of_gt hzl)).trans hT
    have new : ObjOk X.prog X.w (upd H s.heap.objs.size (.tup [.str ⟨#[c']⟩, y])) h'' s.heap.objs.size (.tup [.str ⟨#[c']⟩, y]) :=
      ⟨by show 2 ≤ sizeLine; decide, [.str ⟨#[c']⟩ u', x2], .cons ⟨_, rfl⟩ (.cons ru2 .nil), ⟨_, hT2, rfl, _, rfl⟩⟩
    have I1 : Inv X pins σ (upd H s.heap.objs.size (.tup [.str ⟨#[c']⟩, y])) { s with heap := h'', toks := tk } :=
      I.turnedNew (t' := tk) (ch := [z, TI, TO, i1, i2]) (fun c o hb q => (sb.2 c (fun q' => hb (by simp [q']))).trans (hk c o (fun q' => hb (by simp [q'])) (fun q' => hb (by simp [q'])) (fun q' => hb (by simp [q'])) (fun q' => hb (by simp [q'])) q)) hf (Nat.le_refl _) new
    refine ⟨.ref s.heap.objs.size, _, I1, rfl, ⟨_, c', y, rfl, I.hok.fresh (Nat.le_refl _), rfl, hx, fun l hl => by rw [I.list_inj hl hqy]; exact hy⟩, ⟨z'', ?_, ⟨.str ⟨#[c']⟩ u', x2, ?_⟩, ?_, ?_⟩, fun c hcm => ?_⟩
    · exact (sb.2 _ D.TIz).trans (hk _ _ D.TIz D.TITO D.TIi1 D.TIi2 hTI)
    · exact (sb.2 _ D.TOz).trans TO'
    · obtain ⟨o1, e1, r1⟩ := h1'
      exact ⟨o1, (sb.2 _ D.zi1.symm).trans e1, r1⟩
    · exact h2'.1.at fun o q => (sb.2 _ D.zi2.symm).trans q
    · have hlt : c < s.heap.objs.size := by
        have e' : c = z ∨ c = TI ∨ c = TO ∨ c = i1 ∨ c = i2 := by simpa using hcm
        rcases e' with q | q | q | q | q
        · rw [q]; exact hzl
        · rw [q]; exact Heap.lt_size hTI
        · rw [q]; exact Heap.lt_size hTO
        · rw [q]; obtain ⟨_, e1, _⟩ := h1; exact Heap.lt_size e1
        · rw [q]; obtain ⟨_, e2, _⟩ := h2; exact Heap.lt_size e2
      rw [upd_ne (Nat.ne_of_lt hlt)]
      exact (hf c hcm).1
  done := by
    intro X hP hw hK hc i pins s σ H E I hf st hg
    subst hP hw hK
    obtain ⟨hz, hTI, ⟨x0, y0, hTO⟩, h1, h2⟩ := st
    obtain ⟨ys, hqy, g1, g2, g3⟩ := hg
    obtain ⟨its2, rv2, p2, _⟩ := I.list hqy
    have l2 := rv2.length
    have hh : X.A.in1.handled = none := I.ok.hd hc
    exact wpAny_pyNext_zipD2_end D (Draws.text hh i1 x t) (Draws.list hh i2 b hbi its2.toArray) hz hTI hTO h1 ⟨h2, p2.isList⟩ g1 (by simp; omega) (by simp; omega) fun h' tk hk => ⟨rfl, I.turnedL (t' := tk) (ch := [z, TI, TO, i1, i2]) (fun c o hb q =>
      hk c o (fun q' => hb (by simp [q'])) (fun q' => hb (by simp [q'])) (fun q' => hb (by simp [q'])) (fun q' => hb (by simp [q'])) q) hf⟩
  self := fun A i s Q E st h => wpAny_pyIter_zip st.1 h
theorem sep_new (n b : Nat) (h : b < n) : ZipSep2 (n + 4) (n + 2) (n + 3) n (n + 1) [n] [n + 1, b] := by
  have h1 : ¬ n + 4 = b := by omega
  have h2 : ¬ n + 3 = b := by omega
  have h3 : ¬ n = b := by omega
  constructor <;> simp [h1, h2, h3]
def iZipS (K : PySem.W.Frag) (ta : TA) : TI := fun σ H R => ta σ H fun vs H1 => ∃ x b ys, vs = [.str x, .ref b] ∧ SqL K H1 b ys ∧ R (ItzS K x b) H1
theorem pi_zipS {X : Cx} {e e2 : Expr} {ta : TA} {p pos tpos : Pos} {elts : List Expr} {kk : Nat} (hg : Gl X "zip") (hm : X.mg "zip" = none) (ha : PA X [e, e2] ta)
    (hs : starEach [e, e2] X.env = (false, eval e X.env) :: starEach [e2] X.env := by rfl) (hpl : (backTo pos (starEach [e2] X.env)).any (·.1) = false := by rfl) :
    PI X (.Tuple elts kk tpos) (.Call (.Name "zip" p) [e, e2] [] pos) (iZipS X.K ta) := by
  refine ⟨fun pins s σ H R I h => ?_⟩
  refine Call_ (ld_blt I hg hm PyProof.Rows.boot_zip (PyProof.Rows.callWith_type1 (thn (ha.run pos pins s σ H _ I h) fun us s1 ⟨vs, H1, I1, r1, q1⟩ => ?_) hs hpl))
  obtain ⟨x, b, ys, ex, hqy, q⟩ := q1
  subst ex
  cases r1 with
  | cons r rr =>
    cases rr with
    | cons r' rr =>
      cases rr
      obtain ⟨t, rfl⟩ := r
      cases r'
      obtain ⟨its2, rv2, p2, _⟩ := I1.list hqy
      have lb : b < s1.heap.objs.size := p2.lt
      refine call_zip_S p2.isList fun h' hz hTI hTO h1 h2 hk => wpAny_pyIter_zip hz ?_
      have I2 : Inv X pins σ H1 { s1 with heap := h' } := I1.kept (t' := s1.toks) hk
      have D := sep_new s1.heap.objs.size b lb
      refine ⟨s1.heap.objs.size + 4, [s1.heap.objs.size + 4, s1.heap.objs.size + 2, s1.heap.objs.size + 3, s1.heap.objs.size, s1.heap.objs.size + 1], _, _, H1, rfl, I2, turn_zipS D (fun e => absurd lb (by rw [e]; exact Nat.not_lt.mpr (Nat.le_succ _))), ⟨hz, hTI, ⟨_, _, hTO⟩, h1, h2⟩, fun c hcm => ?_, q⟩
      have hle : s1.heap.objs.size ≤ c := by
        have e' : c = s1.heap.objs.size + 4 ∨ c = s1.heap.objs.size + 2 ∨ c = s1.heap.objs.size + 3 ∨ c = s1.heap.objs.size ∨ c = s1.heap.objs.size + 1 := by simpa using hcm
        rcases e' with z | z | z | z | z
        · rw [z]; exact Nat.le_add_right _ _
        · rw [z]; exact Nat.le_add_right _ _
        · rw [z]; exact Nat.le_add_right _ _
        · rw [z]; exact Nat.le_refl _
        · rw [z]; exact Nat.le_add_right _ _
      exact I1.fpOk hle (I1.hok.fresh hle)
theorem walk_zipS {K : PySem.W.Frag} {x : Str} {b : Addr} {ys : List V} (hn : x.cps.size = ys.length) : Walk (ItzS K x b) ys.length (fun H => SqL K H b ys)
    (fun i H v H' => ∃ T c y, v = .ref T ∧ H T = none ∧ H' = upd H T (.tup [.str ⟨#[c]⟩, y]) ∧ x.cps[i]? = some c ∧ ys[i]? = some y) := by
  refine ⟨fun i _ hi q => ?_, fun _ q => ⟨ys, q, by omega, Nat.le_refl _, .inr rfl⟩, fun i H v H' _ q y => ?_⟩
  · exact ⟨ys, x.cps[i]'(by omega), ys[i], q, by simp [show i < x.cps.size by omega], by simp [hi]⟩
  · obtain ⟨T, c, z, h1, h2, h3, h4, h5⟩ := y
    exact ⟨T, c, z, h1, h2, h3, h4, h5 ys q⟩
end Ct

set_option Elab.async false
set_option linter.all false
set_option maxRecDepth 100000
set_option maxHeartbeats 4000000
namespace Ct
open PySem PySem.Spec PyProof.Rows L2
section
variable {P : Program} {w : World} {K : PySem.W.Frag} {mg : Str → Option Value} {base : Heap} {A : Ad}
/-! ### has_time_form -/
def formL : List Nat := [48, 48, 48, 48, 45, 48, 48, 45, 48, 48, 32, 48, 48, 58, 48, 48]
def okF (c b : Nat) : Bool := if c = 48 then Cl09.isDigit b else b == c
def formN (l : List Nat) (n : Nat) : Bool := ((formL.zip l).take n).all fun p => okF p.1 p.2
def timeForm (l : List Nat) : Bool := decide (l.length = 16) && formN l 16
theorem form_is : (Str.ofString "0000-00-00 00:00").cps.toList = formL := by decide +kernel
theorem formN_more {l : List Nat} {i c b : Nat} (h1 : formL[i]? = some c) (h2 : l[i]? = some b) : formN l (i + 1) = (formN l i && okF c b) := by
  unfold formN
  have e : (formL.zip l)[i]? = some (c, b) := by
    rw [List.getElem?_zip_eq_some]
    exact ⟨h1, h2⟩
  rw [take_more e, List.all_append]
  simp
theorem formN_mono {l : List Nat} {i j : Nat} (h : i ≤ j) (hf : formN l i = false) : formN l j = false := by
  unfold formN at *
  cases e : ((formL.zip l).take j).all fun p => okF p.1 p.2 with
  | false => rfl
  | true =>
    have q : ((formL.zip l).take i).all (fun p => okF p.1 p.2) = true := by
      rw [List.all_eq_true] at e ⊢
      intro x hx
      refine e x ?_
      have : (formL.zip l).take i = ((formL.zip l).take j).take i := by rw [List.take_take, Nat.min_eq_left h]
      rw [this] at hx
      exact List.mem_of_mem_take hx
    rw [q] at hf
    cases hf
theorem sign_zero {c : Nat} : (decide (V.str ⟨#[c]⟩ = V.str (Str.ofString "0")) = true) ↔ c = 48 := by
  rw [decide_eq_true_iff]
  constructor
  · intro h
    have h1 : (⟨#[c]⟩ : Str) = Str.ofString "0" := V.str.inj h
    have h2 : (⟨#[c]⟩ : Str).cps.toList = (Str.ofString "0").cps.toList := by rw [h1]
    have h3 : (Str.ofString "0").cps.toList = [48] := by decide +kernel
    rw [h3] at h2
    simpa using h2
  · rintro rfl
    have : (⟨#[48]⟩ : Str) = Str.ofString "0" := by decide +kernel
    rw [this]
theorem ok_has_time_form (T : Txt K mg A) : FnOk P w K mg base CX0 2 A.f_has_time_form A.d_has_time_form ["value"] (spRowB 100000 timeForm) := by
  refine T.F_has_time_form.ok sc_has_time_form (fun vs H Q E h => ?_) (fun cdv Ar outer s H vs Q E hr h => ?_)
  · obtain ⟨a, l, rfl, _⟩ := h
    rfl
  · obtain ⟨a, l, rfl, ha, hl, q⟩ := h
    refine ⟨_, (pss_cons (ps_if (pt_cmpR op_ne (pe_callB call_len_seq (by rfl) T.z_len PySem.boot_len (pa_cons (pv 0) pa_nil)) (pe_callB call_len_str (by rfl) T.z_len PySem.boot_len (pa_cons (pe_gs T.g_TIME_FORM) pa_nil)) (nomark _))
        (pss_one (ps_ret pe_bl))
        pss_nil)
      (pss_cons (ps_for PassesOwn.never rfl (pi_zipS (by rfl) T.z_zip (pa_cons (pe_gs T.g_TIME_FORM) (pa_cons (pv 0) pa_nil))) (pg_tup rfl (pgs_cons (pg_name (i := 1) sc_has_time_form.nd rfl (Or.inl rfl)) (pgs_cons (pg_name (i := 2) sc_has_time_form.nd rfl (Or.inl rfl)) pgs_nil)))
        (pss_one (ps_if (pt_cmpR op_eq (pv 1) pe_str (nomark _))
          (pss_one (ps_if (pt_not (pt_val (pe_call (ok_is_digit T) (hr.mono (by decide)) (by rfl) T.g_is_digit T.F_is_digit.kp (b_is_digit T) .nil pass0 (pa_cons (pv 2) pa_nil))))
            (pss_one (ps_ret pe_bl))
            pss_nil))
          (pss_one (ps_if (pt_cmpR op_ne (pv 2) (pe_callB call_ord (by rfl) T.z_ord (by decide +kernel) (pa_cons (pv 1) pa_nil)) (nomark _))
            (pss_one (ps_ret pe_bl))
            pss_nil)))))
      (pss_one (ps_ret pe_bl)))), ?_⟩
    have zl : (Str.ofString "0000-00-00 00:00").length = 16 := by decide +kernel
    refine ⟨_, rfl, a, _, rfl, .inl (SqL.of ha), _, rfl, (by rw [zl]; decide), rfl, _, rfl, ite2 (fun c => ?_) (fun c => ?_)⟩
    · refine qb (q H (Same.refl H)) ?_
      have c1 : ¬ l.length = 16 := fun z => by
        rw [nv_len, zl, z] at c
        exact absurd c (by decide)
      unfold timeForm
      rw [decide_eq_false c1]
      rfl
    · have c1 : l.length = 16 := by
        by_cases z : l.length = 16
        · exact z
        · refine absurd ?_ c
          rw [nv_len, zl]
          have : ¬ V.int (l.length : Int) = V.int ((16 : Nat) : Int) := fun e => z (by have := V.int.inj e; omega)
          rw [decide_eq_false this]
          rfl
      have cs : (Str.ofString "0000-00-00 00:00").cps.size = (nv l).length := by
        rw [nv_len, c1]
        exact zl
      refine ⟨_, rfl, _, a, _, rfl, SqL.of ha, ?_⟩
      refine for_it (walk_zipS cs) (fun i σ H' => ∃ v w, σ = [some (.ref a), v, w] ∧ Same H H' ∧ formN l i = true) ⟨none, none, rfl, Same.refl H, rfl⟩ (fun _ _ _ _ ⟨_, _, _, sm, _⟩ => sm.seq (SqL.of ha)) ?_ ?_
      · rintro i x σ H1 H2 hi ⟨v, w, rfl, sm, hf⟩ ⟨U, c, y, rfl, nU, rfl, hc, hy⟩
        obtain ⟨b, hb, rfl⟩ := nv_get hy
        have hc' : formL[i]? = some c := by
          rw [← form_is]
          simpa using hc
        have fm := formN_more hc' hb
        rw [hf, Bool.true_and] at fm
        have no : okF c b = false → timeForm l = false := fun z => by
          unfold timeForm
          rw [formN_mono (i := i + 1) (by rw [nv_len] at hi; omega) (fm.trans z), Bool.and_false]
        have sm2 : Same H (upd H1 U (.tup [.str ⟨#[c]⟩, .int (b : Int)])) := sm.trans (same_upd nU)
        refine ⟨U, _, rfl, .inl (.inl upd_same), rfl, _, _, rfl, _, [], rfl, rfl, ?_⟩
        refine ⟨_, rfl, rfl, _, rfl, ite2 (fun k => ?_) (fun k => ?_)⟩
        · have k1 := sign_zero.mp k
          refine ⟨_, rfl, b, rfl, _, rfl, ?_⟩
          cases z : Cl09.isDigit b with
          | true =>
            refine iteF ?_
            refine ⟨_, _, rfl, sm2, ?_⟩
            rw [fm]
            unfold okF
            rw [if_pos k1, z]
          | false =>
            refine iteT (qb (q _ sm2) ?_)
            exact (no (by unfold okF; rw [if_pos k1, z])).symm
        · have k1 : ¬ c = 48 := fun z => k (sign_zero.mpr z)
          refine ⟨_, rfl, _, rfl, _, rfl, rfl, rfl, _, rfl, ite2 (fun k2 => ?_) (fun k2 => ?_)⟩
          · have e : ¬ b = c := fun z => by
              subst z
              exact absurd k2 (by simp)
            refine qb (q _ sm2) (no ?_).symm
            unfold okF
            rw [if_neg k1]
            exact beq_eq_false_iff_ne.mpr e
          · have e : b = c := by
              by_cases z : b = c
              · exact z
              · refine absurd ?_ k2
                have : ¬ V.int (b : Int) = V.int (c : Int) := fun e => z (by have := V.int.inj e; omega)
                show (!decide (V.int (b : Int) = V.int (c : Int))) = true
                rw [decide_eq_false this]
                rfl
            refine ⟨_, _, rfl, sm2, ?_⟩
            rw [fm]
            unfold okF
            rw [if_neg k1, e]
            exact beq_self_eq_true c
      · rintro σ H1 ⟨v, w, rfl, sm, hf⟩
        refine qb (q _ sm) ?_
        rw [nv_len, c1] at hf
        unfold timeForm
        rw [decide_eq_true c1, hf]
        rfl
/-! ### read_time -/
def natN (l : List Nat) : Nat := l.foldl (fun (n c : Nat) => 10 * n + (c - 48)) 0
theorem len16 {l : List Nat} (h : l.length = 16) : ∃ a0 a1 a2 a3 a4 a5 a6 a7 a8 a9 b0 b1 b2 b3 b4 b5, l = [a0, a1, a2, a3, a4, a5, a6, a7, a8, a9, b0, b1, b2, b3, b4, b5] := by
  match l, h with
  | [a0, a1, a2, a3, a4, a5, a6, a7, a8, a9, b0, b1, b2, b3, b4, b5], _ => exact ⟨a0, a1, a2, a3, a4, a5, a6, a7, a8, a9, b0, b1, b2, b3, b4, b5, rfl⟩
theorem okF0 (b : Nat) : okF 48 b = Cl09.isDigit b := if_pos rfl
theorem okFs {c b : Nat} (h : ¬ c = 48) : okF c b = (b == c) := if_neg h
theorem read_no {l : List Nat} (h : timeForm l = false) : Cl09.timeRead l = none := by
  by_cases hl : l.length = 16
  · obtain ⟨a0, a1, a2, a3, a4, a5, a6, a7, a8, a9, b0, b1, b2, b3, b4, b5, rfl⟩ := len16 hl
    have h2 : formN [a0, a1, a2, a3, a4, a5, a6, a7, a8, a9, b0, b1, b2, b3, b4, b5] 16 = false := by
      unfold timeForm at h
      rw [decide_eq_true hl, Bool.true_and] at h
      exact h
    have h3 : ((Cl09.isDigit a0 && (Cl09.isDigit a1 && (Cl09.isDigit a2 && Cl09.isDigit a3))) && ((a4 == 45) && ((Cl09.isDigit a5 && Cl09.isDigit a6) && ((a7 == 45) && ((Cl09.isDigit a8 && Cl09.isDigit a9) && ((b0 == 32) && ((Cl09.isDigit b1 && Cl09.isDigit b2) && ((b3 == 58) && (Cl09.isDigit b4 && Cl09.isDigit b5))))))))) = false := by
      rw [← h2]
      show _ = ((formL.zip [a0, a1, a2, a3, a4, a5, a6, a7, a8, a9, b0, b1, b2, b3, b4, b5]).take 16).all fun p => okF p.1 p.2
      simp only [formL, List.zip_cons_cons, List.zip_nil_left, List.take_succ_cons, List.take_zero, List.all_cons, List.all_nil, okF0, okFs (show ¬ 45 = 48 by decide), okFs (show ¬ 32 = 48 by decide), okFs (show ¬ 58 = 48 by decide), Bool.and_assoc, Bool.and_true]
    unfold Cl09.timeRead
    split
    · rfl
    · rename_i hn
      have hn' : a4 = 45 ∧ a7 = 45 ∧ b0 = 32 ∧ b3 = 58 := by
        simp only [not_or] at hn
        refine ⟨?_, ?_, ?_, ?_⟩
        · have := hn.2.1; simpa using this
        · have := hn.2.2.1; simpa using this
        · have := hn.2.2.2.1; simpa using this
        · have := hn.2.2.2.2; simpa using this
      obtain ⟨rfl, rfl, rfl, rfl⟩ := hn'
      split
      · rename_i y mo d hh mi e1 e2 e3 e4 e5
        exfalso
        have un : ∀ {b : List Nat} {n : Nat}, Cl09.unfixed b = some n → b.all Cl09.isDigit = true := by
          intro b n e
          unfold Cl09.unfixed at e
          split at e
          · assumption
          · cases e
        have u1 := un e1
        have u2 := un e2
        have u3 := un e3
        have u4 := un e4
        have u5 := un e5
        simp only [List.take_succ_cons, List.take_zero, List.drop_succ_cons, List.drop_zero, List.all_cons, List.all_nil, Bool.and_true, Bool.and_eq_true] at u1 u2 u3 u4 u5
        rw [u1.1, u1.2.1, u1.2.2.1, u1.2.2.2, u2.1, u2.2, u3.1, u3.2, u4.1, u4.2, u5.1, u5.2] at h3
        exact absurd h3 (by decide)
      · rfl
  · unfold Cl09.timeRead
    rw [if_pos (.inl hl)]
structure TimeParts (l : List Nat) : Prop where
  len : l.length = 16
  d1 : (l.take 4).all Cl09.isDigit = true
  d2 : ((l.drop 5).take 2).all Cl09.isDigit = true
  d3 : ((l.drop 8).take 2).all Cl09.isDigit = true
  d4 : ((l.drop 11).take 2).all Cl09.isDigit = true
  d5 : ((l.drop 14).take 2).all Cl09.isDigit = true
  rd : Cl09.timeRead l = if natN (l.take 4) < 2000 ∨ (Cl01.isDate (natN (l.take 4) - 2000) (natN ((l.drop 5).take 2)) (natN ((l.drop 8).take 2)) = false ∨ (23 < natN ((l.drop 11).take 2) ∨ 59 < natN ((l.drop 14).take 2))) then none
    else some (Cl01.dayOf (natN (l.take 4) - 2000) (natN ((l.drop 5).take 2)) (natN ((l.drop 8).take 2)), 60 * natN ((l.drop 11).take 2) + natN ((l.drop 14).take 2))
theorem unfixed_yes {b : List Nat} (h : b.all Cl09.isDigit = true) : Cl09.unfixed b = some (natN b) := if_pos h
theorem read_yes {l : List Nat} (h : timeForm l = true) : TimeParts l := by
  unfold timeForm at h
  rw [Bool.and_eq_true] at h
  have hl : l.length = 16 := of_decide_eq_true h.1
  obtain ⟨a0, a1, a2, a3, a4, a5, a6, a7, a8, a9, b0, b1, b2, b3, b4, b5, rfl⟩ := len16 hl
  have h2 := h.2
  have h3 : ((Cl09.isDigit a0 && (Cl09.isDigit a1 && (Cl09.isDigit a2 && Cl09.isDigit a3))) && ((a4 == 45) && ((Cl09.isDigit a5 && Cl09.isDigit a6) && ((a7 == 45) && ((Cl09.isDigit a8 && Cl09.isDigit a9) && ((b0 == 32) && ((Cl09.isDigit b1 && Cl09.isDigit b2) && ((b3 == 58) && (Cl09.isDigit b4 && Cl09.isDigit b5))))))))) = true := by
    rw [← h2]
    show _ = ((formL.zip [a0, a1, a2, a3, a4, a5, a6, a7, a8, a9, b0, b1, b2, b3, b4, b5]).take 16).all fun p => okF p.1 p.2
    simp only [formL, List.zip_cons_cons, List.zip_nil_left, List.take_succ_cons, List.take_zero, List.all_cons, List.all_nil, okF0, okFs (show ¬ 45 = 48 by decide), okFs (show ¬ 32 = 48 by decide), okFs (show ¬ 58 = 48 by decide), Bool.and_assoc, Bool.and_true]
  simp only [Bool.and_eq_true, beq_iff_eq] at h3
  obtain ⟨⟨x0, x1, x2, x3⟩, rfl, ⟨x5, x6⟩, rfl, ⟨x8, x9⟩, rfl, ⟨y1, y2⟩, rfl, y4, y5⟩ := h3
  have k1 : ([a0, a1, a2, a3] : List Nat).all Cl09.isDigit = true := by simp [x0, x1, x2, x3]
  have k2 : ([a5, a6] : List Nat).all Cl09.isDigit = true := by simp [x5, x6]
  have k3 : ([a8, a9] : List Nat).all Cl09.isDigit = true := by simp [x8, x9]
  have k4 : ([b1, b2] : List Nat).all Cl09.isDigit = true := by simp [y1, y2]
  have k5 : ([b4, b5] : List Nat).all Cl09.isDigit = true := by simp [y4, y5]
  refine ⟨hl, k1, k2, k3, k4, k5, ?_⟩
  unfold Cl09.timeRead
  rw [if_neg (by simp)]
  show (match Cl09.unfixed [a0, a1, a2, a3], Cl09.unfixed [a5, a6], Cl09.unfixed [a8, a9], Cl09.unfixed [b1, b2], Cl09.unfixed [b4, b5] with
    | some y, some mo, some d, some h, some mi => if y < 2000 ∨ (Cl01.isDate (y - 2000) mo d = false ∨ (23 < h ∨ 59 < mi)) then none else some (Cl01.dayOf (y - 2000) mo d, 60 * h + mi)
    | _, _, _, _, _ => none) = _
  rw [unfixed_yes k1, unfixed_yes k2, unfixed_yes k3, unfixed_yes k4, unfixed_yes k5]
  rfl
def timeI (l : List Nat) : Int := match Cl09.timeRead l with
  | none => -1
  | some t => (t.1 : Int) * 1440 + (t.2 : Int)
theorem dayOf_lt {y m d : Nat} (h : dayOk y m d = true) : Cl01.dayOf (y - 2000) m d < 36525 := by
  have k := dayOk_of h
  have e1 := ms_next (y := y - 2000) k.2.2.1
  have e2 := ms_mono (y := y - 2000) (a := m + 1) (b := 13) (by omega) (by omega)
  rw [ms_end] at e2
  unfold Cl01.dayOf
  unfold yS at e2
  omega
theorem numN {l : List Nat} (h : l.all Cl09.isDigit = true) : numI l = ((natN l : Nat) : Int) := numI_nat l h
theorem num_cut {H : Hp} {a : Addr} {l : List Nat} (i j : Nat) (ha : H a = some (.lst (nv l))) : cutV (nv l) (some (i : Int)) (some (j : Int)) = nv ((l.drop i).take (j - i)) := by rw [cut_mid, nv_drop, nv_take]
theorem ok_read_time (T : Txt K mg A) : FnOk P w K mg base CX0 3 A.f_read_time A.d_read_time ["value"] (spRowI 100000 timeI) := by
  refine T.F_read_time.ok sc_read_time (fun vs H Q E h => ?_) (fun cdv Ar outer s H vs Q E hr h => ?_)
  · obtain ⟨a, l, rfl, _⟩ := h
    rfl
  · obtain ⟨a, l, rfl, ha, hl, q⟩ := h
    refine ⟨_, (pss_cons (ps_if (pt_not (pt_val (pe_call (ok_has_time_form T) (hr.mono (by decide)) (by rfl) T.g_has_time_form T.F_has_time_form.kp (b_has_time_form T) .nil pass0 (pa_cons (pv 0) pa_nil))))
        (pss_one (ps_ret (pe_un un_neg pe_int)))
        pss_nil)
      (pss_cons (ps_set (i := 1) sc_read_time.nd rfl (Or.inl rfl) (pe_call (ok_number_of T) (hr.mono (by decide)) (by rfl) T.g_number_of T.F_number_of.kp (b_number_of T) .nil pass0 (pa_cons (pe_slice sl_list (pv 0) (po_some pe_int) (po_some pe_int)) pa_nil)))
      (pss_cons (ps_set (i := 2) sc_read_time.nd rfl (Or.inl rfl) (pe_call (ok_number_of T) (hr.mono (by decide)) (by rfl) T.g_number_of T.F_number_of.kp (b_number_of T) .nil pass0 (pa_cons (pe_slice sl_list (pv 0) (po_some pe_int) (po_some pe_int)) pa_nil)))
      (pss_cons (ps_set (i := 3) sc_read_time.nd rfl (Or.inl rfl) (pe_call (ok_number_of T) (hr.mono (by decide)) (by rfl) T.g_number_of T.F_number_of.kp (b_number_of T) .nil pass0 (pa_cons (pe_slice sl_list (pv 0) (po_some pe_int) (po_some pe_int)) pa_nil)))
      (pss_cons (ps_set (i := 4) sc_read_time.nd rfl (Or.inl rfl) (pe_call (ok_number_of T) (hr.mono (by decide)) (by rfl) T.g_number_of T.F_number_of.kp (b_number_of T) .nil pass0 (pa_cons (pe_slice sl_list (pv 0) (po_some pe_int) (po_some pe_int)) pa_nil)))
      (pss_cons (ps_set (i := 5) sc_read_time.nd rfl (Or.inl rfl) (pe_call (ok_number_of T) (hr.mono (by decide)) (by rfl) T.g_number_of T.F_number_of.kp (b_number_of T) .nil pass0 (pa_cons (pe_slice sl_list (pv 0) (po_some pe_int) (po_some pe_int)) pa_nil)))
      (pss_cons (ps_if (PW.pt (pw_or (pt_not (pt_val (pe_call (ok_is_day T) (hr.mono (by decide)) (by rfl) T.g_is_day T.F_is_day.kp (b_is_day T) .nil pass0 (pa_cons (pv 1) (pa_cons (pv 2) (pa_cons (pv 3) pa_nil)))))) (pw_or (pt_cmpR op_gt (pv 4) pe_int (nomark _)) (pw_or1 (pt_cmpR op_gt (pv 5) pe_int (nomark _))))))
        (pss_one (ps_ret (pe_un un_neg pe_int)))
        pss_nil)
      (pss_one (ps_ret (pe_op op_add (pe_op op_add (pe_op op_mul (pe_call (ok_day_number T) (hr.mono (by decide)) (by rfl) T.g_day_number T.F_day_number.kp (b_day_number T) .nil pass0 (pa_cons (pv 1) (pa_cons (pv 2) (pa_cons (pv 3) pa_nil)))) (pe_gi T.g_DAY_MINUTES)) (pe_op op_mul (pv 4) pe_int)) (pv 5))))))))))), ?_⟩
    refine ⟨_, rfl, a, l, rfl, ha, hl, fun H1 s1 => ⟨_, rfl, ?_⟩⟩
    cases hf : timeForm l with
    | false =>
      refine iteT ⟨1, rfl, qi (q H1 s1) ?_⟩
      unfold timeI
      rw [read_no hf]
    | true =>
      refine iteF ?_
      have R := read_yes hf
      have step : ∀ (i j : Nat) (H1 : Hp), Same H H1 → ∀ p, H1 p = none → (upd H1 p (.lst (cutV (nv l) (some (i : Int)) (some (j : Int))))) p = some (.lst (nv ((l.drop i).take (j - i)))) := fun i j H1 s p np => by
        rw [upd_same, num_cut i j ha]
      have ln := R.len
      refine ⟨_, rfl, 0, rfl, 4, rfl, a, _, rfl, SqL.of (s1 _ _ ha), fun p1 n1 => ⟨p1, l.take 4, rfl, step 0 4 H1 s1 p1 n1, by rw [List.length_take]; omega, R.d1, ?_⟩⟩
      have s2 := s1.trans (same_upd (o := .lst (cutV (nv l) (some ((0 : Nat) : Int)) (some ((4 : Nat) : Int)))) n1)
      refine ⟨_, rfl, 5, rfl, 7, rfl, a, _, rfl, SqL.of (s2 _ _ ha), fun p2 n2 => ⟨p2, (l.drop 5).take 2, rfl, step 5 7 _ s2 p2 n2, by rw [List.length_take]; omega, R.d2, ?_⟩⟩
      have s3 := s2.trans (same_upd (o := .lst (cutV (nv l) (some ((5 : Nat) : Int)) (some ((7 : Nat) : Int)))) n2)
      refine ⟨_, rfl, 8, rfl, 10, rfl, a, _, rfl, SqL.of (s3 _ _ ha), fun p3 n3 => ⟨p3, (l.drop 8).take 2, rfl, step 8 10 _ s3 p3 n3, by rw [List.length_take]; omega, R.d3, ?_⟩⟩
      have s4 := s3.trans (same_upd (o := .lst (cutV (nv l) (some ((8 : Nat) : Int)) (some ((10 : Nat) : Int)))) n3)
      refine ⟨_, rfl, 11, rfl, 13, rfl, a, _, rfl, SqL.of (s4 _ _ ha), fun p4 n4 => ⟨p4, (l.drop 11).take 2, rfl, step 11 13 _ s4 p4 n4, by rw [List.length_take]; omega, R.d4, ?_⟩⟩
      have s5 := s4.trans (same_upd (o := .lst (cutV (nv l) (some ((11 : Nat) : Int)) (some ((13 : Nat) : Int)))) n4)
      refine ⟨_, rfl, 14, rfl, 16, rfl, a, _, rfl, SqL.of (s5 _ _ ha), fun p5 n5 => ⟨p5, (l.drop 14).take 2, rfl, step 14 16 _ s5 p5 n5, by rw [List.length_take]; omega, R.d5, ?_⟩⟩
      have s6 := s5.trans (same_upd (o := .lst (cutV (nv l) (some ((14 : Nat) : Int)) (some ((16 : Nat) : Int)))) n5)
      rw [numN R.d1, numN R.d2, numN R.d3, numN R.d4, numN R.d5]
      have rd := R.rd
      have tl := numI_bound _ R.d4
      have tl2 := numI_bound _ R.d5
      rw [numN R.d4] at tl
      rw [numN R.d5] at tl2
      have l4 : ((l.drop 11).take 2).length = 2 := by rw [List.length_take, List.length_drop]; omega
      have l5 : ((l.drop 14).take 2).length = 2 := by rw [List.length_take, List.length_drop]; omega
      rw [l4] at tl
      rw [l5] at tl2
      generalize natN (l.take 4) = y at rd ⊢
      generalize natN ((l.drop 5).take 2) = mo at rd ⊢
      generalize natN ((l.drop 8).take 2) = d at rd ⊢
      generalize natN ((l.drop 11).take 2) = hh at rd tl ⊢
      generalize natN ((l.drop 14).take 2) = mi at rd tl2 ⊢
      refine ⟨_, rfl, _, rfl, _, rfl, y, mo, d, rfl, _, rfl, ?_⟩
      cases hk : dayOk y mo d with
      | false =>
        refine iteT (iteT ⟨1, rfl, qi (q _ s6) ?_⟩)
        unfold timeI
        rw [rd, if_pos]
        unfold dayOk at hk
        rw [Bool.and_eq_false_iff] at hk
        rcases hk with hk | hk
        · exact .inl (by have := of_decide_eq_false hk; omega)
        · exact .inr (.inl hk)
      | true =>
        refine iteF ?_
        have k := hk
        unfold dayOk at k
        rw [Bool.and_eq_true] at k
        refine ⟨_, rfl, _, _, rfl, rfl, _, rfl, ite2 (fun c => ?_) (fun c => ?_)⟩
        · have c1 := of_decide_eq_true c
          refine iteT ⟨1, rfl, qi (q _ s6) ?_⟩
          unfold timeI
          rw [rd, if_pos (.inr (.inr (.inl (by omega))))]
        · have c1 : ¬ (23 : Int) < hh := fun z => c (decide_eq_true z)
          refine ⟨_, rfl, _, _, rfl, rfl, _, rfl, ite2 (fun c => ?_) (fun c => ?_)⟩
          · have c2 := of_decide_eq_true c
            refine ⟨1, rfl, qi (q _ s6) ?_⟩
            unfold timeI
            rw [rd, if_pos (.inr (.inr (.inr (by omega))))]
          · have c2 : ¬ (59 : Int) < mi := fun z => c (decide_eq_true z)
            have dl := dayOf_lt hk
            refine ⟨_, rfl, _, rfl, _, rfl, y, mo, d, rfl, hk, fun H7 s7 => ?_⟩
            refine ⟨_, _, rfl, rfl, .inl ⟨by omega, by omega⟩, _, rfl, _, _, rfl, rfl, .inl ⟨by omega, by omega⟩, _, _, rfl, rfl, _, rfl, _, _, rfl, rfl, qi (q _ (s6.trans s7)) ?_⟩
            unfold timeI
            rw [rd, if_neg]
            · simp only []
              omega
            · have k1 := of_decide_eq_true k.1
              rintro (z | z | z | z)
              · omega
              · rw [k.2] at z
                cases z
              · omega
              · omega
end
end Ct

set_option Elab.async false
set_option linter.all false
set_option maxRecDepth 100000
set_option maxHeartbeats 4000000
namespace Ct
open PySem PySem.Spec PyProof.Rows L2
section
variable {P : Program} {w : World} {K : PySem.W.Frag} {mg : Str → Option Value} {base : Heap} {A : Ad}
/-! ### names -/
theorem ok_may_stand_in_name (T : Txt K mg A) : FnOk P w K mg base CX0 1 A.f_may_stand_in_name A.d_may_stand_in_name ["byte"] (spN1 Cl09.mayStand) := by
  refine T.F_may_stand_in_name.ok sc_may_stand_in_name (fun vs H Q E h => ?_) (fun cdv Ar outer s H vs Q E hr h => ?_)
  · obtain ⟨n, rfl, _⟩ := h
    rfl
  · obtain ⟨n, rfl, q⟩ := h
    refine ⟨_, (pss_one (ps_ret (pe_or (pe_cmpR op_eq (pv 0) pe_int (nomark _)) (pe_or (pe_chain op_le op_le pe_int (pv 0) pe_int) (pe_one (pe_chain op_le op_le pe_int (pv 0) pe_int)))))), ?_⟩
    refine ⟨_, rfl, rfl, _, rfl, ite2 (fun c => ?_) (fun c => ?_)⟩
    · have c1 := V.int.inj (of_decide_eq_true c)
      have e : n = 10 := by omega
      subst e
      exact qb q rfl
    have c1 : ¬ n = 10 := fun z => c (decide_eq_true (by rw [z]; rfl))
    refine ⟨_, rfl, _, _, rfl, rfl, _, rfl, ite2 (fun c => ?_) (fun c => ?_)⟩
    · have c2 := of_decide_eq_true c
      refine ⟨_, _, rfl, rfl, _, rfl, ite2 (fun c => ?_) (fun c => ?_)⟩
      · have c3 := of_decide_eq_true c
        refine qb q ?_
        rw [Bool.eq_iff_iff]
        simp [Cl09.mayStand]
        omega
      · have c3 : ¬ (n : Int) ≤ 126 := fun z => c (decide_eq_true z)
        refine ⟨_, rfl, _, _, rfl, rfl, _, rfl, ite2 (fun c => ?_) (fun c => ?_)⟩
        · have c4 := of_decide_eq_true c
          refine ⟨_, _, rfl, rfl, qb q ?_⟩
          rw [Bool.eq_iff_iff]
          simp [Cl09.mayStand]
          omega
        · have c4 : ¬ (128 : Int) ≤ n := fun z => c (decide_eq_true z)
          refine qb q ?_
          rw [Bool.eq_iff_iff]
          simp [Cl09.mayStand]
          omega
    · have c2 : ¬ (32 : Int) ≤ n := fun z => c (decide_eq_true z)
      refine ⟨_, rfl, iteF ?_⟩
      refine ⟨_, rfl, _, _, rfl, rfl, _, rfl, ite2 (fun c => ?_) (fun c => ?_)⟩
      · have c4 := of_decide_eq_true c
        omega
      · refine qb q ?_
        rw [Bool.eq_iff_iff]
        simp [Cl09.mayStand]
        omega
theorem ok_is_name (T : Txt K mg A) : FnOk P w K mg base CX0 2 A.f_is_name A.d_is_name ["row"] (spRowB 100000 Cl09.isName) := by
  refine T.F_is_name.ok sc_is_name (fun vs H Q E h => ?_) (fun cdv Ar outer s H vs Q E hr h => ?_)
  · obtain ⟨a, l, rfl, _⟩ := h
    rfl
  · obtain ⟨a, l, rfl, ha, hl, q⟩ := h
    refine ⟨_, (pss_one (ps_ret (pe_and (pe_cmpR op_le (pe_callB call_len_seq (by rfl) T.z_len PySem.boot_len (pa_cons (pv 0) pa_nil)) (pe_gi T.g_MOST_NAME_BYTES) (nomark _)) (pe_one (pe_callB (cr_all (by rfl)) (by rfl) T.z_all (by decide +kernel) (pa_cons (pe_lc (own := [("byte", 1)]) (g := gName 1) (tt := tYes) (by rfl) sc_is_name.nd (pi_list (pv 0)) (blkOk_by (own := [("byte", 1)]) (N := ["row", "byte"]) (sc := defScope s_is_name) (by decide +kernel)) (fun _ _ _ _ _ => pg_name (i := 1) sc_is_name.nd rfl (Or.inl rfl)) (fun _ _ _ _ _ => pts_nil) (fun _ _ _ _ _ => (pe_call (ok_may_stand_in_name T) (hr.mono (by decide)) (by rfl) T.g_may_stand_in_name T.F_may_stand_in_name.kp (b_may_stand_in_name T) .nil pass0 (pa_cons (pv 1) pa_nil)))) pa_nil)))))), ?_⟩
    refine ⟨_, rfl, a, _, rfl, .inl (SqL.of ha), _, _, rfl, rfl, _, rfl, ite2 (fun c => ?_) (fun c => ?_)⟩
    · have c1 := of_decide_eq_true c
      rw [nv_len] at c1
      refine ⟨_, rfl, a, rfl, ⟨_, SqL.of ha⟩, fun D nD => ?_⟩
      refine lc_list (K := K) (a := a) (xs := nv l) (fun i H' => ∃ bs, Bls H H' D bs ∧ bs = (l.take i).map Cl09.mayStand) ⟨[], ⟨same_upd nD, nD, upd_same⟩, rfl⟩ (fun i H' _ ⟨bs, B, _⟩ => SqL.of (B.sm _ _ ha)) ?_ ?_
      · rintro i x H' hx ⟨bs, B, e⟩
        obtain ⟨n, hn, rfl⟩ := nv_get hx
        refine ⟨rfl, _, rfl, n, rfl, bs.map V.bl, B.at_, ?_, bs ++ [Cl09.mayStand n], B.more _, ?_⟩
        · rw [List.length_map, e, List.length_map, List.length_take]
          exact sz (by omega)
        · rw [e, take_more hn, List.map_append]
          rfl
      · rintro H' ⟨bs, B, e⟩
        refine ⟨D, bs, rfl, SqL.of B.at_, qb (q H' B.sm) ?_⟩
        rw [e, nv_len, List.take_length, all_map]
        unfold Cl09.isName
        rw [decide_eq_true (show l.length ≤ Cl09.NAME by unfold Cl09.NAME; omega), Bool.true_and]
    · have c1 : ¬ ((nv l).length : Int) ≤ 40 := fun z => c (decide_eq_true z)
      rw [nv_len] at c1
      refine qb (q H (Same.refl H)) ?_
      unfold Cl09.isName
      rw [decide_eq_false (show ¬ l.length ≤ Cl09.NAME by unfold Cl09.NAME; omega), Bool.false_and]
def OTH : List (Int × Int) := [(10, 110), (92, 92), (44, 44), (59, 59)]
def MEA : List (Int × Int) := [(110, 10), (92, 92), (44, 44), (59, 59)]
def tell1 (c : Nat) : List Nat := if c = 10 then [92, 110] else if c = 92 ∨ (c = 44 ∨ c = 59) then [92, c] else [c]
theorem told_snoc (l : List Nat) (c : Nat) : Cl09.told (l ++ [c]) = Cl09.told l ++ tell1 c := by simp [Cl09.told, tell1]
theorem told_len : ∀ l : List Nat, (Cl09.told l).length ≤ 2 * l.length
  | [] => by simp [Cl09.told]
  | c :: r => by
    have ih := told_len r
    have e : Cl09.told (c :: r) = tell1 c ++ Cl09.told r := by simp [Cl09.told, tell1]
    rw [e, List.length_append, List.length_cons]
    have : (tell1 c).length ≤ 2 := by
      unfold tell1
      split
      · simp
      · split <;> simp
    omega
theorem oth_no {n : Nat} (h1 : ¬ n = 10) (h2 : ¬ n = 92) (h3 : ¬ n = 44) (h4 : ¬ n = 59) : kiAt OTH (n : Int) = none := by
  simp [kiAt, OTH]
  omega
theorem ok_tell_name (T : Txt K mg A) : FnOk P w K mg base CX0 1 A.f_tell_name A.d_tell_name ["name"] (spRow 100000 Cl09.told) := by
  refine T.F_tell_name.ok sc_tell_name (fun vs H Q E h => ?_) (fun cdv Ar outer s H vs Q E hr h => ?_)
  · obtain ⟨a, l, rfl, _⟩ := h
    rfl
  · obtain ⟨a, l, rfl, ha, hl, q⟩ := h
    refine ⟨_, (pss_cons (ps_set (i := 1) sc_tell_name.nd rfl (Or.inl rfl) (pe_lst pa_nil))
      (pss_cons (ps_for PassesOwn.never rfl (pi_list (pv 0)) (pg_name (i := 2) sc_tell_name.nd rfl (Or.inl rfl))
        (pss_one (ps_if (pt_cmpR (op_in_ki T.k_OTHERWISE) (pv 2) (pe_gr T.g_OTHERWISE) (by rfl))
          (pss_one (ps_expr (pe_bm PySem.F.plainAttrs_list PySem.F.slot_list_extend PySem.F.type_list_extend mt_extend (pv 1) (pa_cons (pe_lst (pa_cons (pe_gi T.g_BACKSLASH) (pa_cons (pe_ix (ix_ki T.k_OTHERWISE) (pe_gr T.g_OTHERWISE) (pv 2) (fun _ _ => rfl)) pa_nil))) pa_nil))))
          (pss_one (ps_expr (pe_bm PySem.F.plainAttrs_list PySem.F.slot_list_append PySem.F.type_list_append mt_append (pv 1) (pa_cons (pv 2) pa_nil)))))))
      (pss_one (ps_ret (pv 1))))), ?_⟩
    refine ⟨Nat.zero_le _, fun o no => ?_⟩
    have nao : a ≠ o := ne_of_none ha no
    refine ⟨_, rfl, a, rfl, ⟨_, SqL.of ((upd_ne nao).trans ha)⟩, for_list (K := K) (a := a) (xs := nv l) (fun i σ H' => ∃ v, σ = [some (.ref a), some (.ref o), v] ∧ NewRow H H' o (Cl09.told (l.take i)))
      ⟨none, rfl, ⟨same_upd no, no, upd_same⟩⟩ (fun i σ H' _ ⟨_, _, R⟩ => SqL.of (R.sm _ _ ha)) ?_ ?_⟩
    · rintro i x σ H' hx ⟨v, rfl, R⟩
      obtain ⟨n, hn, rfl⟩ := nv_get hx
      have tl := told_len (l.take i)
      rw [List.length_take] at tl
      by_cases hs : n = 10 ∨ n = 92 ∨ n = 44 ∨ n = 59
      · obtain ⟨k, e1, e2⟩ : ∃ k : Nat, kiAt OTH (n : Int) = some (k : Int) ∧ tell1 n = [92, k] := by
          rcases hs with rfl | rfl | rfl | rfl
          · exact ⟨110, by decide, rfl⟩
          · exact ⟨92, by decide, rfl⟩
          · exact ⟨44, by decide, rfl⟩
          · exact ⟨59, by decide, rfl⟩
        refine ⟨_, rfl, n, rfl, rfl, _, rfl, ?_⟩
        show if (kiAt OTH (n : Int)).isSome = true then _ else _
        rw [e1]
        refine iteT ?_
        refine ⟨_, rfl, .inl ⟨rfl, _, SqL.of R.at_⟩, _, rfl, (n : Int), (k : Int), rfl, rfl, e1, by show 2 ≤ sizeLine; decide, fun p np => ?_⟩
        have npo : o ≠ p := ne_of_none R.at_ np
        refine ⟨o, p, _, _, rfl, rfl, (upd_ne npo).trans R.at_, upd_same, ?_, ?_⟩
        · rw [nv_len]
          have := sz (n := (Cl09.told (l.take i)).length + 2) (by omega)
          show _ + 2 ≤ _
          omega
        · refine ⟨_, rfl, ⟨same_set (fun b ob eb => same_upd np _ _ (R.sm b ob eb)) no, no, ?_⟩⟩
          rw [upd_same, take_more hn, told_snoc, e2, nv_app]
          rfl
      · simp only [not_or] at hs
        have e1 := oth_no hs.1 hs.2.1 hs.2.2.1 hs.2.2.2
        refine ⟨_, rfl, n, rfl, rfl, _, rfl, ?_⟩
        show if (kiAt OTH (n : Int)).isSome = true then _ else _
        rw [e1]
        refine iteF ?_
        refine ⟨_, rfl, .inl ⟨rfl, _, SqL.of R.at_⟩, _, rfl, o, _, _, rfl, rfl, R.at_, ?_, ?_⟩
        · rw [nv_len]
          exact sz (by omega)
        · refine ⟨_, rfl, ⟨same_set R.sm no, no, ?_⟩⟩
          have e2 : tell1 n = [n] := by
            unfold tell1
            rw [if_neg hs.1, if_neg (by simp [hs.2.1, hs.2.2.1, hs.2.2.2])]
          rw [upd_same, take_more hn, told_snoc, e2, nv_app]
          rfl
    · rintro σ H' ⟨v, rfl, R⟩
      rw [nv_len, List.take_length] at R
      exact ⟨_, rfl, q _ o R⟩
/-! ### read_name -/
/-- what the loop reads: as untold, but any plain byte stands -/
def pyUn : Nat → List Nat → Option (List Nat)
  | _, [] => some []
  | 0, _ :: _ => none
  | f + 1, c :: r => if c = 92 then (match r with
      | [] => none
      | e :: r' => match kiAt MEA (e : Int) with
        | some v => (pyUn f r').map fun t => v.toNat :: t
        | none => none)
    else if c = 44 ∨ (c = 59 ∨ c = 10) then none else (pyUn f r).map fun t => c :: t
theorem pyUn_s (f c : Nat) (r : List Nat) : pyUn (f + 1) (c :: r) = if c = 92 then (match r with
      | [] => none
      | e :: r' => match kiAt MEA (e : Int) with
        | some v => (pyUn f r').map fun t => v.toNat :: t
        | none => none)
    else if c = 44 ∨ (c = 59 ∨ c = 10) then none else (pyUn f r).map fun t => c :: t := by cases r <;> rfl
theorem mea_pos {k v : Int} (h : kiAt MEA k = some v) : 0 ≤ v := by
  unfold kiAt at h
  obtain ⟨p, hp, rfl⟩ := Option.map_eq_some_iff.mp h
  have m := List.mem_of_find?_eq_some hp
  have a : ∀ p ∈ MEA, 0 ≤ p.2 := by decide
  exact a p m
theorem mea_no {n : Nat} (h1 : ¬ n = 110) (h2 : ¬ n = 92) (h3 : ¬ n = 44) (h4 : ¬ n = 59) : kiAt MEA (n : Int) = none := by
  simp [kiAt, MEA]
  omega
def sift (o : Option (List Nat)) : Option (List Nat) := o.bind fun t => if t.all Cl09.mayStand = true then some t else none
theorem sift_cons (o : Option (List Nat)) (c : Nat) (h : Cl09.mayStand c = true) : sift (o.map fun t => c :: t) = (sift o).map fun t => c :: t := by
  cases o with
  | none => rfl
  | some t =>
    simp only [sift, Option.map_some, Option.bind_some, List.all_cons, h, Bool.true_and]
    split <;> rfl
theorem sift_bad (o : Option (List Nat)) (c : Nat) (h : Cl09.mayStand c = false) : sift (o.map fun t => c :: t) = none := by
  cases o with
  | none => rfl
  | some t => simp [sift, h]
theorem untold_py : ∀ (f : Nat) (l : List Nat), l.length ≤ f → Cl09.untold l = sift (pyUn f l)
  | f, [], _ => by cases f <;> simp [Cl09.untold, pyUn, sift]
  | 0, _ :: _, h => by simp at h
  | f + 1, c :: r, h => by
    have hr : r.length ≤ f := by simp at h; omega
    by_cases hc : c = 92
    · subst hc
      cases r with
      | nil => simp [Cl09.untold, pyUn, sift]
      | cons e r' =>
        have ih := untold_py f r' (by simp at hr; omega)
        by_cases h1 : e = 110
        · subst h1
          have k : kiAt MEA ((110 : Nat) : Int) = some 10 := by decide
          rw [pyUn, if_pos rfl]
          simp only [k]
          rw [show ((10 : Int).toNat) = 10 from rfl, sift_cons _ _ (by decide), ← ih]
          simp [Cl09.untold]
        · have eu : Cl09.untold (92 :: e :: r') = if e = 92 ∨ (e = 44 ∨ e = 59) then (Cl09.untold r').map fun x => e :: x else none := by
            rw [Cl09.untold]
            exact h1
          rw [eu]
          by_cases h2 : e = 92 ∨ (e = 44 ∨ e = 59)
          · rw [if_pos h2, pyUn, if_pos rfl]
            have k : kiAt MEA (e : Int) = some (e : Int) ∧ Cl09.mayStand e = true := by
              rcases h2 with rfl | rfl | rfl <;> decide
            simp only [k.1]
            rw [show (((e : Nat) : Int).toNat) = e from rfl, sift_cons _ _ k.2, ← ih]
          · have h2' := h2
            simp only [not_or] at h2'
            rw [if_neg h2, pyUn, if_pos rfl]
            simp only [mea_no h1 h2'.1 h2'.2.1 h2'.2.2]
            rfl
    · have ih := untold_py f r hr
      have eu : Cl09.untold (c :: r) = if c = 92 ∨ (c = 44 ∨ (c = 59 ∨ (c = 10 ∨ Cl09.mayStand c = false))) then none else (Cl09.untold r).map fun x => c :: x := by
        rw [Cl09.untold]
        · intro r2 z
          exact absurd z hc
        · intro c2 r2 z
          exact absurd z hc
      rw [eu, pyUn_s, if_neg hc]
      by_cases h2 : c = 44 ∨ (c = 59 ∨ c = 10)
      · rw [if_pos h2, if_pos (by rcases h2 with h | h | h <;> simp [h])]
        rfl
      · rw [if_neg h2]
        have h2' := h2
        simp only [not_or] at h2'
        cases hm : Cl09.mayStand c with
        | false => rw [if_pos (by simp), sift_bad _ _ hm]
        | true => rw [if_neg (by simp [hc, h2'.1, h2'.2.1, h2'.2.2]), sift_cons _ _ hm, ← ih]
theorem pyUn_fuel : ∀ (f g : Nat) (l : List Nat), l.length ≤ f → l.length ≤ g → pyUn f l = pyUn g l
  | f, g, [], _, _ => by cases f <;> cases g <;> rfl
  | 0, _, _ :: _, h, _ => by simp at h
  | _, 0, _ :: _, _, h => by simp at h
  | f + 1, g + 1, c :: r, hf, hg => by
    simp at hf hg
    rw [pyUn_s, pyUn_s]
    split
    · cases r with
      | nil => rfl
      | cons e r' =>
        simp only [List.length_cons] at hf hg
        have z := pyUn_fuel f g r' (by omega) (by omega)
        show (match kiAt MEA (e : Int) with
          | some v => (pyUn f r').map fun t => v.toNat :: t
          | none => none) = _
        rw [z]
    · rw [pyUn_fuel f g r (by omega) (by omega)]
def pyN (l : List Nat) : Option (List Nat) := pyUn l.length l
def readN (l : List Nat) : List Nat := match Cl09.untold l with
  | none => []
  | some t => if 40 < t.length then [] else t
theorem readN_none {l : List Nat} (h : pyN l = none) : readN l = [] := by
  unfold readN
  rw [untold_py _ l (Nat.le_refl _)]
  unfold pyN at h
  rw [h]
  rfl
theorem readN_some {l t : List Nat} (h : pyN l = some t) : readN l = if Cl09.isName t = true then t else [] := by
  unfold readN
  rw [untold_py _ l (Nat.le_refl _)]
  unfold pyN at h
  rw [h]
  unfold Cl09.isName Cl09.NAME
  cases hm : t.all Cl09.mayStand with
  | false =>
    have z : sift (some t) = none := by
      unfold sift
      rw [Option.bind_some, hm]
      rfl
    rw [z, Bool.and_false]
    rfl
  | true =>
    simp only [sift, Option.bind_some, hm, if_true, Bool.and_true, decide_eq_true_eq]
    by_cases z : 40 < t.length
    · rw [if_pos z, if_neg (by omega)]
    · rw [if_neg z, if_pos (by omega)]
theorem pyN_esc {e : Nat} {r : List Nat} {v : Int} (h : kiAt MEA (e : Int) = some v) : pyN (92 :: e :: r) = (pyN r).map fun t => v.toNat :: t := by
  unfold pyN
  rw [List.length_cons, pyUn, if_pos rfl]
  simp only [h]
  rw [pyUn_fuel _ r.length r (by simp) (Nat.le_refl _)]
theorem pyN_plain {c : Nat} {r : List Nat} (h1 : ¬ c = 92) (h2 : ¬ (c = 44 ∨ (c = 59 ∨ c = 10))) : pyN (c :: r) = (pyN r).map fun t => c :: t := by
  unfold pyN
  rw [List.length_cons, pyUn_s, if_neg h1, if_neg h2]
theorem pyN_bad {c : Nat} {r : List Nat} (h1 : ¬ c = 92) (h2 : c = 44 ∨ (c = 59 ∨ c = 10)) : pyN (c :: r) = none := by
  unfold pyN
  rw [List.length_cons, pyUn_s, if_neg h1, if_pos h2]
theorem pyN_esc0 : pyN [92] = none := by rfl
theorem pyN_escBad {e : Nat} {r : List Nat} (h : kiAt MEA (e : Int) = none) : pyN (92 :: e :: r) = none := by
  unfold pyN
  rw [List.length_cons, pyUn, if_pos rfl]
  simp only [h]
theorem map_app (o : Option (List Nat)) (a : List Nat) (c : Nat) : (o.map fun t => c :: t).map (fun t => a ++ t) = o.map fun t => (a ++ [c]) ++ t := by cases o <;> simp
/-- return [] -/
theorem ret_nil {H H1 : Hp} {Q : VK} (sm : Same H H1) (q : ∀ H' p, NewRow H H' p [] → Q (.ref p) H') : ([] : List V).length ≤ sizeLine ∧ ∀ p, H1 p = none → Q (.ref p) (upd H1 p (.lst [])) :=
  ⟨Nat.zero_le _, fun p np => q _ p ⟨same_set sm (sm.free np), sm.free np, upd_same⟩⟩
theorem row_at {l : List Nat} {i : Nat} (h : i < l.length) : (nv l)[i]? = some (.int (l[i] : Nat)) := by rw [nv, List.getElem?_map, List.getElem?_eq_getElem h]; rfl
theorem ok_read_name (T : Txt K mg A) : FnOk P w K mg base CX0 3 A.f_read_name A.d_read_name ["value"] (spRow 100000 readN) := by
  refine T.F_read_name.ok sc_read_name (fun vs H Q E h => ?_) (fun cdv Ar outer s H vs Q E hr h => ?_)
  · obtain ⟨a, l, rfl, _⟩ := h
    rfl
  · obtain ⟨a, l, rfl, ha, hl, q⟩ := h
    have qn : pyN l = none → ∀ H' p, NewRow H H' p [] → Q (.ref p) H' := fun z H' p R => q H' p (by rw [readN_none z]; exact R)
    refine ⟨_, (pss_cons (ps_set (i := 1) sc_read_name.nd rfl (Or.inl rfl) (pe_lst pa_nil))
      (pss_cons (ps_set (i := 2) sc_read_name.nd rfl (Or.inl rfl) pe_int)
      (pss_cons (ps_while PassesOwn.never (pt_cmpR op_lt (pv 2) (pe_callB call_len_seq (by rfl) T.z_len PySem.boot_len (pa_cons (pv 0) pa_nil)) (nomark _))
        (pss_cons (ps_set (i := 3) sc_read_name.nd rfl (Or.inl rfl) (pe_ix ix_list (pv 0) (pv 2) (fun _ _ => rfl)))
        (pss_cons (ps_if (pt_cmpR op_eq (pv 3) (pe_gi T.g_BACKSLASH) (nomark _))
          (pss_cons (ps_aug (i := 2) sc_read_name.nd rfl (Or.inl rfl) pe_int ip_add)
          (pss_cons (ps_if (PW.pt (pw_or (pt_cmpR op_eq (pv 2) (pe_callB call_len_seq (by rfl) T.z_len PySem.boot_len (pa_cons (pv 0) pa_nil)) (nomark _)) (pw_or1 (pt_cmpR (op_notIn_ki T.k_MEANT) (pe_ix ix_list (pv 0) (pv 2) (fun _ _ => rfl)) (pe_gr T.g_MEANT) (by rfl)))))
            (pss_one (ps_ret (pe_lst pa_nil)))
            pss_nil)
          (pss_one (ps_expr (pe_bm PySem.F.plainAttrs_list PySem.F.slot_list_append PySem.F.type_list_append mt_append (pv 1) (pa_cons (pe_ix (ix_ki T.k_MEANT) (pe_gr T.g_MEANT) (pe_ix ix_list (pv 0) (pv 2) (fun _ _ => rfl)) (fun _ _ => rfl)) pa_nil))))))
          (pss_one (ps_if (pt_cmpR (op_in_ki T.k_OTHERWISE) (pv 3) (pe_gr T.g_OTHERWISE) (by rfl))
            (pss_one (ps_ret (pe_lst pa_nil)))
            (pss_one (ps_expr (pe_bm PySem.F.plainAttrs_list PySem.F.slot_list_append PySem.F.type_list_append mt_append (pv 1) (pa_cons (pv 3) pa_nil)))))))
        (pss_one (ps_aug (i := 2) sc_read_name.nd rfl (Or.inl rfl) pe_int ip_add)))))
      (pss_cons (ps_if (pt_not (pt_val (pe_call (ok_is_name T) (hr.mono (by decide)) (by rfl) T.g_is_name T.F_is_name.kp (b_is_name T) .nil pass0 (pa_cons (pv 1) pa_nil))))
        (pss_one (ps_ret (pe_lst pa_nil)))
        pss_nil)
      (pss_one (ps_ret (pv 1))))))), ?_⟩
    refine ⟨Nat.zero_le _, fun o no => ?_⟩
    have nao : a ≠ o := ne_of_none ha no
    refine ⟨fun m σ H' => ∃ (i : Nat) (acc : List Nat) (v : Option V), m = l.length - i ∧ i ≤ l.length ∧ acc.length ≤ i ∧ σ = [some (.ref a), some (.ref o), some (.int (i : Int)), v] ∧ NewRow H H' o acc ∧ pyN l = (pyN (l.drop i)).map fun t => acc ++ t,
      ⟨_, 0, [], none, rfl, Nat.zero_le _, Nat.le_refl _, rfl, ⟨same_upd no, no, upd_same⟩, by rw [List.drop_zero]; cases pyN l <;> simp⟩, ?_⟩
    rintro m σ H' ⟨i, acc, v, rfl, hi, hacc, rfl, R, e⟩
    have ha' : H' a = some (.lst (nv l)) := R.sm _ _ ha
    refine ⟨_, rfl, _, rfl, a, _, rfl, .inl (SqL.of ha'), _, _, rfl, rfl, _, rfl, ite2 (fun c => ?_) (fun c => ?_)⟩
    · have hlt : i < l.length := by have := of_decide_eq_true c; rw [nv_len] at this; omega
      have ed : l.drop i = l[i] :: l.drop (i + 1) := List.drop_eq_getElem_cons hlt
      refine ⟨fun σ' H'' => ∃ (j : Nat) (acc : List Nat) (v : Option V), i < j ∧ j ≤ l.length ∧ acc.length ≤ j ∧ σ' = [some (.ref a), some (.ref o), some (.int (j : Int)), v] ∧ NewRow H H'' o acc ∧ pyN l = (pyN (l.drop j)).map fun t => acc ++ t, ?_, ?_⟩
      · rintro σ' H'' ⟨j, acc, v, h1, h2, h3, h4, h5, h6⟩
        exact ⟨_, by omega, j, acc, v, rfl, h2, h3, h4, h5, h6⟩
      refine ⟨_, rfl, _, rfl, a, _, _, _, rfl, rfl, SqL.of ha', atI_nat (row_at hlt), ?_⟩
      refine ⟨_, rfl, rfl, _, rfl, ite2 (fun c2 => ?_) (fun c2 => ?_)⟩
      · have c3 : l[i] = 92 := by have := V.int.inj (of_decide_eq_true c2); omega
        rw [c3] at ed
        refine ⟨_, rfl, _, _, rfl, rfl, ?_⟩
        refine ⟨_, rfl, _, rfl, a, _, rfl, .inl (SqL.of ha'), rfl, _, rfl, ite2 (fun c4 => ?_) (fun c4 => ?_)⟩
        · have c5 : (i : Int) + 1 = ((nv l).length : Int) := V.int.inj (of_decide_eq_true c4)
          rw [nv_len] at c5
          have e2 : pyN l = none := by
            rw [e, ed, List.drop_of_length_le (by omega), pyN_esc0]
            rfl
          exact iteT (ret_nil R.sm (qn e2))
        · have c5 : i + 1 < l.length := by
            by_cases z : i + 1 = l.length
            · exact absurd (decide_eq_true (by rw [nv_len]; show V.int ((i : Int) + 1) = V.int (l.length : Int); congr 1; omega)) c4
            · omega
          have ed2 : l.drop (i + 1) = l[i + 1] :: l.drop (i + 1 + 1) := List.drop_eq_getElem_cons c5
          rw [ed2] at ed
          have hat : atI (nv l) ((i : Int) + 1) = some (.int (l[i + 1] : Nat)) := atI_nat (j := i + 1) (row_at c5)
          refine ⟨_, rfl, _, rfl, a, _, _, _, rfl, rfl, SqL.of ha', hat, _, rfl, rfl, _, rfl, ?_⟩
          show if (!(kiAt MEA ((l[i + 1] : Nat) : Int)).isSome) = true then _ else _
          cases hk : kiAt MEA ((l[i + 1] : Nat) : Int) with
          | none =>
            have e2 : pyN l = none := by
              rw [e, ed, pyN_escBad hk]
              rfl
            exact iteT (ret_nil R.sm (qn e2))
          | some k =>
            have kn : (k.toNat : Int) = k := by
              have := mea_pos hk
              omega
            refine iteF ?_
            refine ⟨_, rfl, .inl ⟨rfl, _, SqL.of R.at_⟩, _, rfl, _, rfl, a, _, _, _, rfl, rfl, SqL.of ha', hat, _, k, rfl, rfl, hk, o, _, _, rfl, rfl, R.at_, ?_, ?_⟩
            · rw [nv_len]
              exact sz (by omega)
            · refine ⟨_, rfl, _, _, rfl, rfl, i + 2, acc ++ [k.toNat], _, by omega, by omega, by simp; omega, rfl, ⟨same_set R.sm no, no, ?_⟩, ?_⟩
              · rw [upd_same, nv_app]
                show some (HO.lst (nv acc ++ [V.int k])) = some (HO.lst (nv acc ++ [V.int (k.toNat : Int)]))
                rw [kn]
              · rw [e, ed, pyN_esc hk, map_app]
      · have c3 : ¬ l[i] = 92 := fun z => c2 (decide_eq_true (by rw [z]; rfl))
        by_cases hs : l[i] = 10 ∨ l[i] = 44 ∨ l[i] = 59
        · have e1 : (kiAt OTH ((l[i] : Nat) : Int)).isSome = true := by
            rcases hs with z | z | z <;> rw [z] <;> decide
          refine ⟨_, rfl, _, rfl, rfl, _, rfl, ?_⟩
          show if (kiAt OTH ((l[i] : Nat) : Int)).isSome = true then _ else _
          rw [e1]
          have e2 : pyN l = none := by
            rw [e, ed, pyN_bad c3 (by omega)]
            rfl
          exact iteT (ret_nil R.sm (qn e2))
        · have hs' := hs
          simp only [not_or] at hs'
          refine ⟨_, rfl, _, rfl, rfl, _, rfl, ?_⟩
          show if (kiAt OTH ((l[i] : Nat) : Int)).isSome = true then _ else _
          rw [oth_no hs'.1 c3 hs'.2.1 hs'.2.2]
          refine iteF ?_
          refine ⟨_, rfl, .inl ⟨rfl, _, SqL.of R.at_⟩, _, rfl, o, _, _, rfl, rfl, R.at_, ?_, ?_⟩
          · rw [nv_len]
            exact sz (by omega)
          · refine ⟨_, rfl, _, _, rfl, rfl, i + 1, acc ++ [l[i]], _, by omega, by omega, by simp; omega, rfl, ⟨same_set R.sm no, no, ?_⟩, ?_⟩
            · rw [upd_same, nv_app]
              rfl
            · rw [e, ed, pyN_plain c3 (by omega), map_app]
    · have hge : i = l.length := by
        have : ¬ i < l.length := fun z => c (decide_eq_true (by rw [nv_len]; omega))
        omega
      have e2 : pyN l = some acc := by
        rw [e, hge, List.drop_length]
        simp [pyN, pyUn]
      have e3 := readN_some e2
      refine ⟨_, rfl, o, acc, rfl, R.at_, by omega, fun H2 s2 => ⟨_, rfl, ?_⟩⟩
      cases hn : Cl09.isName acc with
      | false =>
        rw [hn, if_neg Bool.false_ne_true] at e3
        refine iteT (ret_nil (R.sm.trans s2) fun H3 p R3 => q H3 p ?_)
        rw [e3]
        exact R3
      | true =>
        rw [hn, if_pos rfl] at e3
        refine iteF ⟨_, rfl, q H2 o ?_⟩
        rw [e3]
        exact ⟨R.sm.trans s2, no, s2 _ _ R.at_⟩
/-! ### read_number -/
def numberI (l : List Nat) : Int := match Cl09.number l with
  | none => -1
  | some n => (n : Int)
theorem number_no {l : List Nat} (h : l = [] ∨ (4 < l.length ∨ (l.all Cl09.isDigit = false ∨ (1 < l.length ∧ l.head? = some 48)))) : numberI l = -1 := by
  unfold numberI Cl09.number
  rw [if_pos h]
theorem number_yes {l : List Nat} (h : ¬ (l = [] ∨ (4 < l.length ∨ (l.all Cl09.isDigit = false ∨ (1 < l.length ∧ l.head? = some 48))))) (hd : l.all Cl09.isDigit = true) : numberI l = numI l := by
  unfold numberI Cl09.number
  rw [if_neg h, numI_nat l hd]
theorem head_at {l : List Nat} (h : 0 < l.length) : atI (nv l) 0 = some (.int (l[0] : Nat)) ∧ l.head? = some l[0] := by
  cases l with
  | nil => simp at h
  | cons x r => exact ⟨atI_nat (j := 0) rfl, rfl⟩
theorem ok_read_number (T : Txt K mg A) : FnOk P w K mg base CX0 2 A.f_read_number A.d_read_number ["value"] (spRowI 100000 numberI) := by
  refine T.F_read_number.ok sc_read_number (fun vs H Q E h => ?_) (fun cdv Ar outer s H vs Q E hr h => ?_)
  · obtain ⟨a, l, rfl, _⟩ := h
    rfl
  · obtain ⟨a, l, rfl, ha, hl, q⟩ := h
    refine ⟨_, (pss_cons (ps_if (PW.pt (pw_or (pt_cmpR op_lt (pe_callB call_len_seq (by rfl) T.z_len PySem.boot_len (pa_cons (pv 0) pa_nil)) pe_int (nomark _)) (pw_or1 (pt_cmpR op_gt (pe_callB call_len_seq (by rfl) T.z_len PySem.boot_len (pa_cons (pv 0) pa_nil)) (pe_gi T.g_MOST_DIGITS) (nomark _)))))
        (pss_one (ps_ret (pe_un un_neg pe_int)))
        pss_nil)
      (pss_cons (ps_if (pt_not (pt_val (pe_callB (cr_all (by rfl)) (by rfl) T.z_all (by decide +kernel) (pa_cons (pe_lc (own := [("byte", 1)]) (g := gName 1) (tt := tYes) (by rfl) sc_read_number.nd (pi_list (pv 0)) (blkOk_by (own := [("byte", 1)]) (N := ["value", "byte"]) (sc := defScope s_read_number) (by decide +kernel)) (fun _ _ _ _ _ => pg_name (i := 1) sc_read_number.nd rfl (Or.inl rfl)) (fun _ _ _ _ _ => pts_nil) (fun _ _ _ _ _ => (pe_call (ok_is_digit T) (hr.mono (by decide)) (by rfl) T.g_is_digit T.F_is_digit.kp (b_is_digit T) .nil pass0 (pa_cons (pv 1) pa_nil)))) pa_nil))))
        (pss_one (ps_ret (pe_un un_neg pe_int)))
        pss_nil)
      (pss_cons (ps_if (PW.pt (pw_and (pt_cmpR op_gt (pe_callB call_len_seq (by rfl) T.z_len PySem.boot_len (pa_cons (pv 0) pa_nil)) pe_int (nomark _)) (pw_and1 (pt_cmpR op_eq (pe_ix ix_list (pv 0) pe_int (fun _ _ => rfl)) (pe_gi T.g_ZERO) (nomark _)))))
        (pss_one (ps_ret (pe_un un_neg pe_int)))
        pss_nil)
      (pss_one (ps_ret (pe_call (ok_number_of T) (hr.mono (by decide)) (by rfl) T.g_number_of T.F_number_of.kp (b_number_of T) .nil pass0 (pa_cons (pv 0) pa_nil))))))), ?_⟩
    refine ⟨_, rfl, a, _, rfl, .inl (SqL.of ha), _, _, rfl, rfl, _, rfl, ite2 (fun c => ?_) (fun c => ?_)⟩
    · have c1 := of_decide_eq_true c
      rw [nv_len] at c1
      refine iteT ⟨1, rfl, qi (q H (Same.refl H)) ?_⟩
      rw [number_no (.inl (List.eq_nil_of_length_eq_zero (by omega)))]
    have c1 : ¬ ((nv l).length : Int) < 1 := fun z => c (decide_eq_true z)
    rw [nv_len] at c1
    refine ⟨_, rfl, a, _, rfl, .inl (SqL.of ha), _, _, rfl, rfl, _, rfl, ite2 (fun c => ?_) (fun c => ?_)⟩
    · have c2 := of_decide_eq_true c
      rw [nv_len] at c2
      refine ⟨1, rfl, qi (q H (Same.refl H)) ?_⟩
      rw [number_no (.inr (.inl (by omega)))]
    have c2 : ¬ (4 : Int) < ((nv l).length : Int) := fun z => c (decide_eq_true z)
    rw [nv_len] at c2
    refine ⟨_, rfl, a, rfl, ⟨_, SqL.of ha⟩, fun D nD => ?_⟩
    refine lc_list (K := K) (a := a) (xs := nv l) (fun i H' => ∃ bs, Bls H H' D bs ∧ bs = (l.take i).map Cl09.isDigit) ⟨[], ⟨same_upd nD, nD, upd_same⟩, rfl⟩ (fun i H' _ ⟨bs, B, _⟩ => SqL.of (B.sm _ _ ha)) ?_ ?_
    · rintro i x H' hx ⟨bs, B, e⟩
      obtain ⟨n, hn, rfl⟩ := nv_get hx
      refine ⟨rfl, _, rfl, n, rfl, bs.map V.bl, B.at_, ?_, bs ++ [Cl09.isDigit n], B.more _, ?_⟩
      · rw [List.length_map, e, List.length_map, List.length_take]
        exact sz (by omega)
      · rw [e, take_more hn, List.map_append]
        rfl
    · rintro H' ⟨bs, B, e⟩
      have ha' := B.sm _ _ ha
      have eb : bs.all id = l.all Cl09.isDigit := by rw [e, nv_len, List.take_length, all_map]
      refine ⟨D, bs, rfl, SqL.of B.at_, _, rfl, ?_⟩
      rw [eb]
      cases hd : l.all Cl09.isDigit with
      | false =>
        refine iteT ⟨1, rfl, qi (q H' B.sm) ?_⟩
        rw [number_no (.inr (.inr (.inl hd)))]
      | true =>
        refine iteF ?_
        have hh := head_at (l := l) (by omega)
        have fin : ¬ (1 < l.length ∧ l.head? = some 48) → spNumber [.ref a] H' Q E0 := fun z => by
          refine ⟨a, l, rfl, ha', by omega, hd, qi (q H' B.sm) ?_⟩
          rw [number_yes _ hd]
          rintro (y | y | y | y)
          · rw [y] at c1
            exact c1 (by decide)
          · omega
          · rw [hd] at y
            cases y
          · exact z y
        refine ⟨_, rfl, a, _, rfl, .inl (SqL.of ha'), _, _, rfl, rfl, _, rfl, ite2 (fun c => ?_) (fun c => ?_)⟩
        · have c3 := of_decide_eq_true c
          rw [nv_len] at c3
          refine ⟨_, rfl, a, _, 0, _, rfl, rfl, SqL.of ha', hh.1, rfl, _, rfl, ite2 (fun c => ?_) (fun c => ?_)⟩
          · have c4 : ((l[0] : Nat) : Int) = 48 := V.int.inj (of_decide_eq_true c)
            refine ⟨1, rfl, qi (q H' B.sm) ?_⟩
            rw [number_no (.inr (.inr (.inr ⟨by omega, by rw [hh.2]; congr 1; omega⟩)))]
          · refine ⟨_, rfl, fin fun z => c (decide_eq_true ?_)⟩
            have z2 := z.2
            rw [hh.2] at z2
            rw [Option.some.inj z2]
            rfl
        · have c3 : ¬ (1 : Int) < ((nv l).length : Int) := fun z => c (decide_eq_true z)
          rw [nv_len] at c3
          exact iteF ⟨_, rfl, fin fun z => by omega⟩
/-! ### tags -/
theorem ok_is_tag (T : Txt K mg A) : FnOk P w K mg base CX0 2 A.f_is_tag A.d_is_tag ["row"] (spRowB 100000 Cl09.isTag) := by
  refine T.F_is_tag.ok sc_is_tag (fun vs H Q E h => ?_) (fun cdv Ar outer s H vs Q E hr h => ?_)
  · obtain ⟨a, l, rfl, _⟩ := h
    rfl
  · obtain ⟨a, l, rfl, ha, hl, q⟩ := h
    refine ⟨_, (pss_one (ps_ret (pe_and (pe_chain op_le op_le pe_int (pe_callB call_len_seq (by rfl) T.z_len PySem.boot_len (pa_cons (pv 0) pa_nil)) (pe_gi T.g_MOST_TAG_LETTERS)) (pe_one (pe_callB (cr_all (by rfl)) (by rfl) T.z_all (by decide +kernel) (pa_cons (pe_lc (own := [("byte", 1)]) (g := gName 1) (tt := tYes) (by rfl) sc_is_tag.nd (pi_list (pv 0)) (blkOk_by (own := [("byte", 1)]) (N := ["row", "byte"]) (sc := defScope s_is_tag) (by decide +kernel)) (fun _ _ _ _ _ => pg_name (i := 1) sc_is_tag.nd rfl (Or.inl rfl)) (fun _ _ _ _ _ => pts_nil) (fun _ _ _ _ _ => (pe_call (ok_is_small_letter T) (hr.mono (by decide)) (by rfl) T.g_is_small_letter T.F_is_small_letter.kp (b_is_small_letter T) .nil pass0 (pa_cons (pv 1) pa_nil)))) pa_nil)))))), ?_⟩
    refine ⟨_, rfl, a, _, rfl, .inl (SqL.of ha), _, _, rfl, rfl, _, rfl, ite2 (fun c => ?_) (fun c => ?_)⟩
    · have c1 := of_decide_eq_true c
      rw [nv_len] at c1
      refine ⟨_, _, rfl, rfl, _, rfl, ite2 (fun c => ?_) (fun c => ?_)⟩
      · have c2 := of_decide_eq_true c
        rw [nv_len] at c2
        refine ⟨_, rfl, a, rfl, ⟨_, SqL.of ha⟩, fun D nD => ?_⟩
        refine lc_list (K := K) (a := a) (xs := nv l) (fun i H' => ∃ bs, Bls H H' D bs ∧ bs = (l.take i).map Cl09.isLetter) ⟨[], ⟨same_upd nD, nD, upd_same⟩, rfl⟩ (fun i H' _ ⟨bs, B, _⟩ => SqL.of (B.sm _ _ ha)) ?_ ?_
        · rintro i x H' hx ⟨bs, B, e⟩
          obtain ⟨n, hn, rfl⟩ := nv_get hx
          refine ⟨rfl, _, rfl, n, rfl, bs.map V.bl, B.at_, ?_, bs ++ [Cl09.isLetter n], B.more _, ?_⟩
          · rw [List.length_map, e, List.length_map, List.length_take]
            exact sz (by omega)
          · rw [e, take_more hn, List.map_append]
            rfl
        · rintro H' ⟨bs, B, e⟩
          refine ⟨D, bs, rfl, SqL.of B.at_, qb (q H' B.sm) ?_⟩
          rw [e, nv_len, List.take_length, all_map]
          unfold Cl09.isTag
          rw [decide_eq_true (show 1 ≤ l.length by omega), decide_eq_true (show l.length ≤ 8 by omega), Bool.true_and, Bool.true_and]
      · have c2 : ¬ ((nv l).length : Int) ≤ 8 := fun z => c (decide_eq_true z)
        rw [nv_len] at c2
        refine qb (q H (Same.refl H)) ?_
        unfold Cl09.isTag
        rw [decide_eq_false (show ¬ l.length ≤ 8 by omega), Bool.false_and, Bool.and_false]
    · have c1 : ¬ (1 : Int) ≤ ((nv l).length : Int) := fun z => c (decide_eq_true z)
      rw [nv_len] at c1
      refine ⟨_, rfl, iteF (qb (q H (Same.refl H)) ?_)⟩
      unfold Cl09.isTag
      rw [decide_eq_false (show ¬ 1 ≤ l.length by omega), Bool.false_and]
theorem RowsAt.get {H : Hp} : ∀ {ps : List Addr} {ls : List (List Nat)} {i : Nat} {p : Addr}, RowsAt H ps ls → ps[i]? = some p → ∃ l, ls[i]? = some l ∧ H p = some (.lst (nv l))
  | [], [], _, _, _, h => by simp at h
  | a :: r, l :: s, 0, p, h, e => ⟨l, rfl, by have : a = p := Option.some.inj e; rw [← this]; exact h.1⟩
  | a :: r, l :: s, i + 1, p, h, e => RowsAt.get (ps := r) (ls := s) (i := i) h.2 e
  | [], _ :: _, _, _, h, _ => h.elim
  | _ :: _, [], _, _, h, _ => h.elim
theorem refs_get {ps : List Addr} {i : Nat} {x : V} (h : (ps.map V.ref)[i]? = some x) : ∃ p, ps[i]? = some p ∧ x = .ref p := by
  rw [List.getElem?_map] at h
  cases e : ps[i]? with
  | none => rw [e] at h; cases h
  | some n => rw [e] at h; exact ⟨n, rfl, (Option.some.inj h).symm⟩
def tagsP (l : List Nat) : List (List Nat) := if (split 44 l).all Cl09.isTag = true then split 44 l else []
theorem split_len (m : Nat) (l : List Nat) : (split m l).length ≤ l.length + 1 := by
  have := spl_len m l
  unfold split
  rw [List.length_append, List.length_singleton]
  omega
theorem row_len (m : Nat) : ∀ (l : List Nat), (∀ x ∈ (spl m l).1, x.length ≤ l.length) ∧ (spl m l).2.length ≤ l.length := by
  have go : ∀ (l : List Nat) (s : List (List Nat) × List Nat) (n : Nat), (∀ x ∈ s.1, x.length ≤ n) → s.2.length ≤ n → (∀ x ∈ (l.foldl (splS m) s).1, x.length ≤ n + l.length) ∧ (l.foldl (splS m) s).2.length ≤ n + l.length := by
    intro l
    induction l with
    | nil => intro s n h1 h2; exact ⟨h1, h2⟩
    | cons c r ih =>
      intro s n h1 h2
      rw [List.foldl_cons, List.length_cons]
      have q := ih (splS m s c) (n + 1) (by
        intro x hx
        unfold splS at hx
        split at hx
        · rcases List.mem_append.mp hx with hx | hx
          · have := h1 x hx; omega
          · have e : x = s.2 := by simpa using hx
            rw [e]; omega
        · have := h1 x hx; omega) (by
        unfold splS
        split
        · simp
        · simp; omega)
      rw [show n + (r.length + 1) = n + 1 + r.length by omega]
      exact q
  intro l
  have := go l ([], []) 0 (by intro x hx; cases hx) (Nat.le_refl _)
  simpa [spl] using this
theorem split_row_len {m : Nat} {l x : List Nat} (h : x ∈ split m l) : x.length ≤ l.length := by
  have q := row_len m l
  unfold split at h
  rcases List.mem_append.mp h with h | h
  · exact q.1 x h
  · have e : x = (spl m l).2 := by simpa using h
    rw [e]
    exact q.2
def spTags : Sp := fun vs H Q _ => ∃ (a : Addr) (l : List Nat), vs = [.ref a] ∧ H a = some (.lst (nv l)) ∧ l.length ≤ 100000 ∧ ∀ H' p ps, NewRows H H' p ps (tagsP l) → Q (.ref p) H'
theorem ok_read_tags (T : Txt K mg A) : FnOk P w K mg base CX0 3 A.f_read_tags A.d_read_tags ["value"] spTags := by
  refine T.F_read_tags.ok sc_read_tags (fun vs H Q E h => ?_) (fun cdv Ar outer s H vs Q E hr h => ?_)
  · obtain ⟨a, l, rfl, _⟩ := h
    rfl
  · obtain ⟨a, l, rfl, ha, hl, q⟩ := h
    refine ⟨_, (pss_cons (ps_set (i := 1) sc_read_tags.nd rfl (Or.inl rfl) (pe_call (ok_split_row T) (hr.mono (by decide)) (by rfl) T.g_split_row T.F_split_row.kp (b_split_row T) .nil pass0 (pa_cons (pv 0) (pa_cons (pe_gi T.g_COMMA) pa_nil))))
      (pss_cons (ps_if (pt_not (pt_val (pe_callB (cr_all (by rfl)) (by rfl) T.z_all (by decide +kernel) (pa_cons (pe_lc (own := [("tag", 2)]) (g := gName 2) (tt := tYes) (by rfl) sc_read_tags.nd (pi_list (pv 1)) (blkOk_by (own := [("tag", 2)]) (N := ["value", "tags", "tag"]) (sc := defScope s_read_tags) (by decide +kernel)) (fun _ _ _ _ _ => pg_name (i := 2) sc_read_tags.nd rfl (Or.inl rfl)) (fun _ _ _ _ _ => pts_nil) (fun _ _ _ _ _ => (pe_call (ok_is_tag T) (hr.mono (by decide)) (by rfl) T.g_is_tag T.F_is_tag.kp (b_is_tag T) .nil pass0 (pa_cons (pv 2) pa_nil)))) pa_nil))))
        (pss_one (ps_ret (pe_lst pa_nil)))
        pss_nil)
      (pss_one (ps_ret (pv 1))))), ?_⟩
    refine ⟨_, rfl, a, 44, l, rfl, ha, hl, fun H1 p ps R => ?_⟩
    have pl := R.rows.len
    have sl := split_len 44 l
    refine ⟨_, rfl, p, rfl, ⟨_, SqL.of R.at_⟩, fun D nD => ?_⟩
    refine lc_list (K := K) (a := p) (xs := ps.map V.ref) (fun i H' => ∃ bs, Bls H1 H' D bs ∧ bs = ((split 44 l).take i).map Cl09.isTag) ⟨[], ⟨same_upd nD, nD, upd_same⟩, rfl⟩ (fun i H' _ ⟨bs, B, _⟩ => SqL.of (B.sm _ _ R.at_)) ?_ ?_
    · rintro i x H' hx ⟨bs, B, e⟩
      obtain ⟨b, hb, rfl⟩ := refs_get hx
      obtain ⟨t, ht, hbt⟩ := RowsAt.get R.rows hb
      have tl : t.length ≤ l.length := split_row_len (List.mem_of_getElem? ht)
      refine ⟨rfl, _, rfl, b, t, rfl, B.sm _ _ hbt, by omega, fun H2 s2 => ?_⟩
      have B2 : Bls H1 H2 D bs := ⟨B.sm.trans s2, B.nw, s2 _ _ B.at_⟩
      refine ⟨bs.map V.bl, B2.at_, ?_, bs ++ [Cl09.isTag t], B2.more _, ?_⟩
      · rw [List.length_map, e, List.length_map, List.length_take]
        exact sz (by omega)
      · rw [e, take_more ht, List.map_append]
        rfl
    · rintro H' ⟨bs, B, e⟩
      have eb : bs.all id = (split 44 l).all Cl09.isTag := by
        rw [e, List.length_map, pl, List.take_length]
        simp [List.all_map]
      refine ⟨D, bs, rfl, SqL.of B.at_, _, rfl, ?_⟩
      rw [eb]
      cases hd : (split 44 l).all Cl09.isTag with
      | false =>
        refine iteT ⟨Nat.zero_le _, fun p2 np2 => ?_⟩
        have sm := R.sm.trans B.sm
        refine q _ p2 [] ⟨same_set sm (sm.free np2), sm.free np2, upd_same, by simp, by simp, ?_⟩
        unfold tagsP
        rw [hd, if_neg Bool.false_ne_true]
        trivial
      | true =>
        refine iteF ⟨_, rfl, q _ p ps ⟨R.sm.trans B.sm, R.nw, B.sm _ _ R.at_, R.out, R.new, ?_⟩⟩
        unfold tagsP
        rw [hd, if_pos rfl]
        exact R.rows.same B.sm
end
end Ct

set_option Elab.async false
set_option linter.all false
set_option maxRecDepth 100000
set_option maxHeartbeats 4000000
/-! Dates and calendars in the heap. F: what is never written again; all that is written is apart from it. -/
namespace Ct
open PySem PySem.Spec PyProof.Rows L2
/-! ### fields -/
theorem lk_here {k : Str} {v : V} {r : List (Str × V)} : List.lookup k ((k, v) :: r) = some v := by
  have e : (k == k) = true := beq_self_eq_true k
  simp only [List.lookup, e]
theorem lk_past {k g : Str} {v : V} {r : List (Str × V)} (h : (k == g) = false) : List.lookup k ((g, v) :: r) = List.lookup k r := by
  simp only [List.lookup, h]
theorem put_here {f : Str} {v x : V} {r : List (Str × V)} : putF f v ((f, x) :: r) = (f, v) :: r := if_pos rfl
theorem put_past {f g : Str} {v x : V} {r : List (Str × V)} (h : ¬ g = f) : putF f v ((g, x) :: r) = (g, x) :: putF f v r := if_neg h
/-- the addresses of a date's parts -/
structure DA where
  dx : Addr
  nm : Addr
  rg : Addr
  tg : Addr
  ot : Addr
  tps : List Addr
  ops : List (Addr × Addr × Addr)
/-- the seven fields of a date -/
def dFs (a b c d e f g : V) : List (Str × V) := [("day", a), ("minute", b), ("length", c), ("name", d), ("rings", e), ("tags", f), ("others", g)]
section
variable {a b c d e f g v : V}
theorem dFs_day : (dFs a b c d e f g).lookup ("day" : Str) = some a := lk_here
theorem dFs_minute : (dFs a b c d e f g).lookup ("minute" : Str) = some b := (lk_past (by decide +kernel)).trans lk_here
theorem dFs_length : (dFs a b c d e f g).lookup ("length" : Str) = some c := (lk_past (by decide +kernel)).trans ((lk_past (by decide +kernel)).trans lk_here)
theorem dFs_name : (dFs a b c d e f g).lookup ("name" : Str) = some d := (lk_past (by decide +kernel)).trans ((lk_past (by decide +kernel)).trans ((lk_past (by decide +kernel)).trans lk_here))
theorem dFs_rings : (dFs a b c d e f g).lookup ("rings" : Str) = some e := (lk_past (by decide +kernel)).trans ((lk_past (by decide +kernel)).trans ((lk_past (by decide +kernel)).trans ((lk_past (by decide +kernel)).trans lk_here)))
theorem dFs_tags : (dFs a b c d e f g).lookup ("tags" : Str) = some f := (lk_past (by decide +kernel)).trans ((lk_past (by decide +kernel)).trans ((lk_past (by decide +kernel)).trans ((lk_past (by decide +kernel)).trans ((lk_past (by decide +kernel)).trans lk_here))))
theorem dFs_others : (dFs a b c d e f g).lookup ("others" : Str) = some g := (lk_past (by decide +kernel)).trans ((lk_past (by decide +kernel)).trans ((lk_past (by decide +kernel)).trans ((lk_past (by decide +kernel)).trans ((lk_past (by decide +kernel)).trans ((lk_past (by decide +kernel)).trans lk_here)))))
theorem put_day : putF "day" v (dFs a b c d e f g) = dFs v b c d e f g := put_here
theorem put_minute : putF "minute" v (dFs a b c d e f g) = dFs a v c d e f g := (put_past (by decide +kernel)).trans (congrArg _ put_here)
theorem put_length : putF "length" v (dFs a b c d e f g) = dFs a b v d e f g := (put_past (by decide +kernel)).trans (congrArg _ ((put_past (by decide +kernel)).trans (congrArg _ put_here)))
theorem put_name : putF "name" v (dFs a b c d e f g) = dFs a b c v e f g := (put_past (by decide +kernel)).trans (congrArg _ ((put_past (by decide +kernel)).trans (congrArg _ ((put_past (by decide +kernel)).trans (congrArg _ put_here)))))
theorem put_rings : putF "rings" v (dFs a b c d e f g) = dFs a b c d v f g := (put_past (by decide +kernel)).trans (congrArg _ ((put_past (by decide +kernel)).trans (congrArg _ ((put_past (by decide +kernel)).trans (congrArg _ ((put_past (by decide +kernel)).trans (congrArg _ put_here)))))))
theorem put_tags : putF "tags" v (dFs a b c d e f g) = dFs a b c d e v g := (put_past (by decide +kernel)).trans (congrArg _ ((put_past (by decide +kernel)).trans (congrArg _ ((put_past (by decide +kernel)).trans (congrArg _ ((put_past (by decide +kernel)).trans (congrArg _ ((put_past (by decide +kernel)).trans (congrArg _ put_here)))))))))
end
theorem new_date {a b c d e f g : V} : putF "others" g (putF "tags" f (putF "rings" e (putF "name" d (putF "length" c (putF "minute" b (putF "day" a [])))))) = dFs a b c d e f g := by
  have h : ∀ {x y : Str}, (x == y) = false → ¬ y = x := fun h z => by rw [z] at h; simp at h
  simp only [putF, dFs]
  rfl
def OthersAt (F : Hp) : List (Addr × Addr × Addr) → List (List Nat × List Nat) → Prop
  | [], [] => True
  | o :: r, e :: s => F o.1 = some (.tup [.ref o.2.1, .ref o.2.2]) ∧ F o.2.1 = some (.lst (nv e.1)) ∧ F o.2.2 = some (.lst (nv e.2)) ∧ OthersAt F r s
  | _, _ => False
theorem OthersAt.same {F F' : Hp} : ∀ {os : List (Addr × Addr × Addr)} {es : List (List Nat × List Nat)}, OthersAt F os es → Same F F' → OthersAt F' os es
  | [], [], _, _ => trivial
  | _ :: _, _ :: _, h, s => ⟨s _ _ h.1, s _ _ h.2.1, s _ _ h.2.2.1, OthersAt.same h.2.2.2 s⟩
  | [], _ :: _, h, _ => h.elim
  | _ :: _, [], h, _ => h.elim
theorem OthersAt.len {F : Hp} : ∀ {os : List (Addr × Addr × Addr)} {es : List (List Nat × List Nat)}, OthersAt F os es → os.length = es.length
  | [], [], _ => rfl
  | _ :: _, _ :: _, h => congrArg (· + 1) (OthersAt.len h.2.2.2)
  | [], _ :: _, h => h.elim
  | _ :: _, [], h => h.elim
theorem OthersAt.snoc {F : Hp} {o : Addr × Addr × Addr} {e : List Nat × List Nat} (h1 : F o.1 = some (.tup [.ref o.2.1, .ref o.2.2])) (h2 : F o.2.1 = some (.lst (nv e.1))) (h3 : F o.2.2 = some (.lst (nv e.2))) :
    ∀ {os : List (Addr × Addr × Addr)} {es : List (List Nat × List Nat)}, OthersAt F os es → OthersAt F (os ++ [o]) (es ++ [e])
  | [], [], _ => ⟨h1, h2, h3, trivial⟩
  | _ :: _, _ :: _, h => ⟨h.1, h.2.1, h.2.2.1, OthersAt.snoc h1 h2 h3 h.2.2.2⟩
  | [], _ :: _, h => h.elim
  | _ :: _, [], h => h.elim
theorem OthersAt.get {F : Hp} : ∀ {os : List (Addr × Addr × Addr)} {es : List (List Nat × List Nat)} {i : Nat} {o : Addr × Addr × Addr}, OthersAt F os es → os[i]? = some o → ∃ e, es[i]? = some e ∧ F o.1 = some (.tup [.ref o.2.1, .ref o.2.2]) ∧ F o.2.1 = some (.lst (nv e.1)) ∧ F o.2.2 = some (.lst (nv e.2))
  | [], [], _, _, _, h => by simp at h
  | a :: r, e :: s, 0, o, h, q => ⟨e, rfl, by have : a = o := Option.some.inj q; rw [← this]; exact ⟨h.1, h.2.1, h.2.2.1⟩⟩
  | a :: r, e :: s, i + 1, o, h, q => OthersAt.get (os := r) (es := s) (i := i) h.2.2.2 q
  | [], _ :: _, _, _, h, _ => h.elim
  | _ :: _, [], _, _, h, _ => h.elim
/-! ### a date -/
def dF (x : DA) (r : Cl09.Date) (has : Bool) : List (Str × V) :=
  dFs (if has = true then .int (r.day : Int) else .non) (if has = true then .int (r.minute : Int) else .non) (.int (r.long : Int)) (.ref x.nm) (.ref x.rg) (.ref x.tg) (.ref x.ot)
def muts (d : Addr) (x : DA) : List Addr := [d, x.rg, x.tg, x.ot]
structure DateAt (C : Addr) (F H : Hp) (d : Addr) (x : DA) (r : Cl09.Date) (has : Bool) : Prop where
  ins : H d = some (.ins C x.dx (dF x r has))
  nm : F x.nm = some (.lst (nv r.name))
  rg : H x.rg = some (.lst (nv r.rings))
  tg : H x.tg = some (.lst (x.tps.map V.ref))
  tgr : RowsAt F x.tps r.tags
  ot : H x.ot = some (.lst (x.ops.map fun o => V.ref o.1))
  otr : OthersAt F x.ops r.extra
  nd : (muts d x).Nodup
  fr : ∀ m ∈ muts d x, F m = none
theorem DateAt.trk {C : Addr} {F H : Hp} {d : Addr} {x : DA} {r : Cl09.Date} {has : Bool} (D : DateAt C F H d x r has) : ∀ m ∈ muts d x, H m ≠ none := by
  intro m hm
  have h : m = d ∨ m = x.rg ∨ m = x.tg ∨ m = x.ot := by simpa [muts] using hm
  rcases h with rfl | rfl | rfl | rfl
  · rw [D.ins]; simp
  · rw [D.rg]; simp
  · rw [D.tg]; simp
  · rw [D.ot]; simp
/-- nothing but new things -/
structure More (F H F' H' : Hp) : Prop where
  hh : Same H H'
  ff : Same F F'
  fn : ∀ b, H b ≠ none → F' b = F b
  sm : Same F' H'
theorem More.refl {F H : Hp} (s : Same F H) : More F H F H := ⟨Same.refl H, Same.refl F, fun _ _ => rfl, s⟩
theorem More.trans {F H F1 H1 F2 H2 : Hp} (a : More F H F1 H1) (b : More F1 H1 F2 H2) : More F H F2 H2 :=
  ⟨a.hh.trans b.hh, a.ff.trans b.ff, fun c h => by
    have : H1 c ≠ none := by
      cases e : H c with
      | none => exact absurd e h
      | some o => rw [a.hh _ _ e]; simp
    rw [b.fn c this, a.fn c h], b.sm⟩
theorem More.same {F H H' : Hp} (s : Same F H) (h : Same H H') : More F H F H' := ⟨h, Same.refl F, fun _ _ => rfl, s.trans h⟩
/-- a new thing that is never written -/
theorem More.freeze {F H H' : Hp} {p : Addr} {o : HO} (s : Same F H) (h : Same H H') (np : H p = none) (hp : H' p = some o) : More F H (upd F p o) H' := by
  have fp : F p = none := s.free np
  refine ⟨h, same_upd fp, fun b hb => upd_ne fun e => hb (by rw [e]; exact np), fun b ob e => ?_⟩
  by_cases z : b = p
  · rw [z, upd_same] at e
    rw [z, ← e]
    exact hp
  · rw [upd_ne z] at e
    exact h _ _ (s _ _ e)
theorem DateAt.more {C : Addr} {F H F' H' : Hp} {d : Addr} {x : DA} {r : Cl09.Date} {has : Bool} (D : DateAt C F H d x r has) (M : More F H F' H') : DateAt C F' H' d x r has :=
  ⟨M.hh _ _ D.ins, M.ff _ _ D.nm, M.hh _ _ D.rg, M.hh _ _ D.tg, D.tgr.same M.ff, M.hh _ _ D.ot, D.otr.same M.ff, D.nd, fun m hm => by rw [M.fn m (D.trk m hm)]; exact D.fr m hm⟩
/-- M is written, the rest stands; M' is what is written now -/
structure Grow (M M' : List Addr) (F H F' H' : Hp) : Prop where
  hh : ∀ b o, H b = some o → b ∉ M → H' b = some o
  ff : Same F F'
  fn : ∀ b, H b ≠ none → F' b = F b
  sm : Same F' H'
  mm : ∀ m ∈ M', m ∈ M ∨ H m = none
  tr : ∀ b, H b ≠ none → H' b ≠ none
theorem upd_tr {H : Hp} {m : Addr} {o : HO} {b : Addr} (h : H b ≠ none) : upd H m o b ≠ none := by
  by_cases z : b = m
  · rw [z, upd_same]; simp
  · rw [upd_ne z]; exact h
theorem same_tr {H H' : Hp} (s : Same H H') {b : Addr} (h : H b ≠ none) : H' b ≠ none := by
  cases e : H b with
  | none => exact absurd e h
  | some o => rw [s _ _ e]; simp
theorem Grow.trans {M M' M'' : List Addr} {F H F1 H1 F2 H2 : Hp} (a : Grow M M' F H F1 H1) (b : Grow M' M'' F1 H1 F2 H2) : Grow M M'' F H F2 H2 := by
  refine ⟨fun c o e hc => b.hh c o (a.hh c o e hc) fun z => ?_, a.ff.trans b.ff, fun c hc => (b.fn c (a.tr c hc)).trans (a.fn c hc), b.sm, fun m hm => ?_, fun c hc => b.tr c (a.tr c hc)⟩
  · rcases a.mm c z with h | h
    · exact hc h
    · rw [h] at e
      cases e
  · rcases b.mm m hm with h | h
    · exact a.mm m h
    · refine .inr ?_
      cases e : H m with
      | none => rfl
      | some o => exact absurd h (a.tr m (by rw [e]; simp))
theorem Grow.after {M M' : List Addr} {F H F1 H1 F' H' : Hp} (a : More F H F1 H1) (g : Grow M M' F1 H1 F' H') : Grow M M' F H F' H' :=
  ⟨fun b o e hb => g.hh b o (a.hh _ _ e) hb, a.ff.trans g.ff, fun b hb => by
    have : H1 b ≠ none := by
      cases e : H b with
      | none => exact absurd e hb
      | some o => rw [a.hh _ _ e]; simp
    rw [g.fn b this, a.fn b hb], g.sm, fun m hm => by
    rcases g.mm m hm with h | h
    · exact .inl h
    · exact .inr (a.hh.free h), fun b hb => g.tr b (same_tr a.hh hb)⟩
theorem Grow.more {M : List Addr} {F H F' H' : Hp} (a : More F H F' H') : Grow M M F H F' H' := ⟨fun b o e _ => a.hh _ _ e, a.ff, a.fn, a.sm, fun m hm => .inl hm, fun b hb => same_tr a.hh hb⟩
/-- one thing written -/
theorem Grow.put {M : List Addr} {F H : Hp} {m : Addr} {o : HO} (s : Same F H) (hm : m ∈ M) (fm : F m = none) : Grow M M F H F (upd H m o) :=
  ⟨fun b ob e hb => by rw [upd_ne fun z => hb (by rw [z]; exact hm)]; exact e, Same.refl F, fun _ _ => rfl, same_set s fm, fun x hx => .inl hx, fun b hb => upd_tr hb⟩
/-! ### dates, one behind another -/
def mutsL (l : List (Addr × DA)) : List Addr := l.flatMap fun p => muts p.1 p.2
theorem mutsL_app (a b : List (Addr × DA)) : mutsL (a ++ b) = mutsL a ++ mutsL b := by simp [mutsL]
theorem mutsL_cons (p : Addr × DA) (b : List (Addr × DA)) : mutsL (p :: b) = muts p.1 p.2 ++ mutsL b := by simp [mutsL]
def DatesAt (C : Addr) (F H : Hp) : List (Addr × DA) → List (Cl09.Date × Bool) → Prop
  | [], [] => True
  | p :: r, q :: s => DateAt C F H p.1 p.2 q.1 q.2 ∧ DatesAt C F H r s
  | _, _ => False
section
variable {C : Addr} {F H F' H' : Hp}
theorem DatesAt.len : ∀ {as : List (Addr × DA)} {rs : List (Cl09.Date × Bool)}, DatesAt C F H as rs → as.length = rs.length
  | [], [], _ => rfl
  | _ :: _, _ :: _, h => congrArg (· + 1) (DatesAt.len h.2)
  | [], _ :: _, h => h.elim
  | _ :: _, [], h => h.elim
theorem DatesAt.trk : ∀ {as : List (Addr × DA)} {rs : List (Cl09.Date × Bool)}, DatesAt C F H as rs → ∀ m ∈ mutsL as, H m ≠ none
  | [], [], _, m, hm => by simp [mutsL] at hm
  | p :: r, q :: s, h, m, hm => by
    rw [mutsL_cons] at hm
    rcases List.mem_append.mp hm with hm | hm
    · exact h.1.trk m hm
    · exact DatesAt.trk h.2 m hm
  | [], _ :: _, h, _, _ => h.elim
  | _ :: _, [], h, _, _ => h.elim
theorem DatesAt.fr : ∀ {as : List (Addr × DA)} {rs : List (Cl09.Date × Bool)}, DatesAt C F H as rs → ∀ m ∈ mutsL as, F m = none
  | [], [], _, m, hm => by simp [mutsL] at hm
  | p :: r, q :: s, h, m, hm => by
    rw [mutsL_cons] at hm
    rcases List.mem_append.mp hm with hm | hm
    · exact h.1.fr m hm
    · exact DatesAt.fr h.2 m hm
  | [], _ :: _, h, _, _ => h.elim
  | _ :: _, [], h, _, _ => h.elim
theorem DatesAt.app : ∀ {as bs : List (Addr × DA)} {rs ss : List (Cl09.Date × Bool)}, DatesAt C F H as rs → DatesAt C F H bs ss → DatesAt C F H (as ++ bs) (rs ++ ss)
  | [], _, [], _, _, h => h
  | _ :: _, _, _ :: _, _, h, k => ⟨h.1, DatesAt.app h.2 k⟩
  | [], _, _ :: _, _, h, _ => h.elim
  | _ :: _, _, [], _, h, _ => h.elim
theorem DatesAt.split : ∀ {as bs : List (Addr × DA)} {rs : List (Cl09.Date × Bool)}, DatesAt C F H (as ++ bs) rs → ∃ r1 r2, rs = r1 ++ r2 ∧ r1.length = as.length ∧ DatesAt C F H as r1 ∧ DatesAt C F H bs r2
  | [], _, rs, h => ⟨[], rs, rfl, rfl, trivial, h⟩
  | a :: as, bs, q :: s, h => by
    obtain ⟨r1, r2, e, l, h1, h2⟩ := DatesAt.split (as := as) (bs := bs) (rs := s) h.2
    exact ⟨q :: r1, r2, by rw [e]; rfl, by simp [l], ⟨h.1, h1⟩, h2⟩
  | a :: as, _, [], h => h.elim
theorem DatesAt.get : ∀ {as : List (Addr × DA)} {rs : List (Cl09.Date × Bool)} {i : Nat} {q : Cl09.Date × Bool}, DatesAt C F H as rs → rs[i]? = some q → ∃ p, as[i]? = some p ∧ DateAt C F H p.1 p.2 q.1 q.2
  | [], [], _, _, _, h => by simp at h
  | p :: r, x :: s, 0, q, h, e => ⟨p, rfl, by have : x = q := Option.some.inj e; rw [← this]; exact h.1⟩
  | p :: r, x :: s, i + 1, q, h, e => DatesAt.get (as := r) (rs := s) (i := i) h.2 e
  | [], _ :: _, _, _, h, _ => h.elim
  | _ :: _, [], _, _, h, _ => h.elim
theorem DatesAt.keep {M M' : List Addr} (g : Grow M M' F H F' H') : ∀ {as : List (Addr × DA)} {rs : List (Cl09.Date × Bool)}, DatesAt C F H as rs → (∀ m ∈ mutsL as, m ∉ M) → DatesAt C F' H' as rs
  | [], [], _, _ => trivial
  | p :: r, q :: s, h, k => by
    rw [mutsL_cons] at k
    have k1 : ∀ m ∈ muts p.1 p.2, m ∉ M := fun m hm => k m (List.mem_append_left _ hm)
    have D := h.1
    refine ⟨⟨g.hh _ _ D.ins (k1 _ (by simp [muts])), g.ff _ _ D.nm, g.hh _ _ D.rg (k1 _ (by simp [muts])), g.hh _ _ D.tg (k1 _ (by simp [muts])), D.tgr.same g.ff, g.hh _ _ D.ot (k1 _ (by simp [muts])), D.otr.same g.ff, D.nd,
      fun m hm => by rw [g.fn m (D.trk m hm)]; exact D.fr m hm⟩, DatesAt.keep g h.2 fun m hm => k m (List.mem_append_right _ hm)⟩
  | [], _ :: _, h, _ => h.elim
  | _ :: _, [], h, _ => h.elim
end
/-! ### a calendar -/
structure CA where
  dx : Addr
  tt : Addr
  ds : Addr
  das : List (Addr × DA)
def cFs (a b : V) : List (Str × V) := [("title", a), ("dates", b)]
theorem cFs_title {a b : V} : (cFs a b).lookup ("title" : Str) = some a := lk_here
theorem cFs_dates {a b : V} : (cFs a b).lookup ("dates" : Str) = some b := (lk_past (by decide +kernel)).trans lk_here
theorem put_title {a b v : V} : putF "title" v (cFs a b) = cFs v b := put_here
theorem put_dates {a b v : V} : putF "dates" v (cFs a b) = cFs a v := (put_past (by decide +kernel)).trans (congrArg _ put_here)
theorem new_cal {a b : V} : putF "dates" b (putF "title" a []) = cFs a b := by
  simp only [putF, cFs]
  rfl
def mutsC (c : Addr) (y : CA) : List Addr := c :: y.ds :: mutsL y.das
structure CalAt (C CD : Addr) (F H : Hp) (c : Addr) (y : CA) (t : List Nat) (rs : List (Cl09.Date × Bool)) : Prop where
  ins : H c = some (.ins C y.dx (cFs (.ref y.tt) (.ref y.ds)))
  tt : F y.tt = some (.lst (nv t))
  ds : H y.ds = some (.lst (y.das.map fun p => V.ref p.1))
  dates : DatesAt CD F H y.das rs
  nd : (mutsC c y).Nodup
  fc : F c = none
  fd : F y.ds = none
  sm : Same F H
section
variable {C CD : Addr} {F H F' H' : Hp} {c : Addr} {y : CA} {t : List Nat} {rs : List (Cl09.Date × Bool)}
theorem CalAt.trk (h : CalAt C CD F H c y t rs) : ∀ m ∈ mutsC c y, H m ≠ none := by
  intro m hm
  rcases List.mem_cons.mp hm with rfl | hm
  · rw [h.ins]; simp
  · rcases List.mem_cons.mp hm with rfl | hm
    · rw [h.ds]; simp
    · exact h.dates.trk m hm
theorem CalAt.fr (h : CalAt C CD F H c y t rs) : ∀ m ∈ mutsC c y, F m = none := by
  intro m hm
  rcases List.mem_cons.mp hm with rfl | hm
  · exact h.fc
  · rcases List.mem_cons.mp hm with rfl | hm
    · exact h.fd
    · exact h.dates.fr m hm
/-- what is written is no part of it -/
theorem CalAt.keep {M M' : List Addr} (h : CalAt C CD F H c y t rs) (g : Grow M M' F H F' H') (k : ∀ m ∈ mutsC c y, m ∉ M) : CalAt C CD F' H' c y t rs := by
  have kc := k c (List.mem_cons_self ..)
  have kd := k y.ds (List.mem_cons_of_mem _ (List.mem_cons_self ..))
  refine ⟨g.hh _ _ h.ins kc, g.ff _ _ h.tt, g.hh _ _ h.ds kd, h.dates.keep g fun m hm => k m (List.mem_cons_of_mem _ (List.mem_cons_of_mem _ hm)), h.nd, ?_, ?_, g.sm⟩
  · rw [g.fn c (by rw [h.ins]; simp)]; exact h.fc
  · rw [g.fn y.ds (by rw [h.ds]; simp)]; exact h.fd
theorem CalAt.more (h : CalAt C CD F H c y t rs) (m : More F H F' H') : CalAt C CD F' H' c y t rs := h.keep (Grow.more (M := []) m) fun _ _ z => by cases z
/-- one date written -/
theorem CalAt.set {pre post : List (Addr × DA)} {d : Addr} {x x' : DA} {rp rq : List (Cl09.Date × Bool)} {q q' : Cl09.Date × Bool} (h : CalAt C CD F H c y t rs) (hd : y.das = pre ++ (d, x) :: post) (hr : rs = rp ++ q :: rq) (hl : rp.length = pre.length)
    (g : Grow (muts d x) (muts d x') F H F' H') (D : DateAt CD F' H' d x' q'.1 q'.2) : CalAt C CD F' H' c { y with das := pre ++ (d, x') :: post } t (rp ++ q' :: rq) := by
  have nd := h.nd
  have trk := h.trk
  unfold mutsC at nd trk
  rw [hd, mutsL_app, mutsL_cons] at nd trk
  simp only [] at nd trk
  obtain ⟨r1, r2, e, l1, h1, h2⟩ := DatesAt.split (as := pre) (bs := (d, x) :: post) (by rw [← hd]; exact h.dates)
  obtain ⟨rfl, e2⟩ : r1 = rp ∧ r2 = q :: rq := List.append_inj (e.symm.trans hr) (l1.trans hl.symm)
  subst e2
  have n1 := (List.nodup_cons.mp nd)
  have n2 := (List.nodup_cons.mp n1.2)
  have n3 := List.nodup_append.mp n2.2
  have n4 := List.nodup_append.mp n3.2.1
  have dis : ∀ m, m ∈ c :: y.ds :: (mutsL pre ++ mutsL post) → m ∉ muts d x' := by
    intro m hm hx
    have hm' : m = c ∨ m = y.ds ∨ m ∈ mutsL pre ∨ m ∈ mutsL post := by simpa using hm
    rcases g.mm m hx with z | z
    · rcases hm' with rfl | rfl | hm' | hm'
      · exact n1.1 (by simp [z])
      · exact n2.1 (by simp [z])
      · exact n3.2.2 m hm' m (List.mem_append_left _ z) rfl
      · exact n4.2.2 m z m hm' rfl
    · refine absurd z (trk m ?_)
      rcases hm' with rfl | rfl | hm' | hm' <;> simp [*]
  have old : ∀ m, m ∈ c :: y.ds :: (mutsL pre ++ mutsL post) → m ∉ muts d x := by
    intro m hm z
    have hm' : m = c ∨ m = y.ds ∨ m ∈ mutsL pre ∨ m ∈ mutsL post := by simpa using hm
    rcases hm' with rfl | rfl | hm' | hm'
    · exact n1.1 (by simp [z])
    · exact n2.1 (by simp [z])
    · exact n3.2.2 m hm' m (List.mem_append_left _ z) rfl
    · exact n4.2.2 m z m hm' rfl
  refine ⟨g.hh _ _ h.ins (old _ (by simp)), g.ff _ _ h.tt, ?_, ?_, ?_, ?_, ?_, g.sm⟩
  · rw [g.hh _ _ h.ds (old _ (by simp)), hd]
    simp
  · exact DatesAt.app (h1.keep g fun m hm => old m (by simp [hm])) ⟨D, h2.2.keep g fun m hm => old m (by simp [hm])⟩
  · show (c :: y.ds :: mutsL (pre ++ (d, x') :: post)).Nodup
    rw [mutsL_app, mutsL_cons]
    simp only []
    refine List.nodup_cons.mpr ⟨fun z => ?_, List.nodup_cons.mpr ⟨fun z => ?_, List.nodup_append.mpr ⟨n3.1, List.nodup_append.mpr ⟨D.nd, n4.2.1, fun a ha b hb e => ?_⟩, fun a ha b hb e => ?_⟩⟩⟩
    · have z' : c = y.ds ∨ c ∈ mutsL pre ∨ c ∈ muts d x' ∨ c ∈ mutsL post := by simpa using z
      rcases z' with z | z | z | z
      · exact n1.1 (by simp [z])
      · exact n1.1 (by simp [z])
      · exact dis c (by simp) z
      · exact n1.1 (by simp [z])
    · have z' : y.ds ∈ mutsL pre ∨ y.ds ∈ muts d x' ∨ y.ds ∈ mutsL post := by simpa using z
      rcases z' with z | z | z
      · exact n2.1 (by simp [z])
      · exact dis y.ds (by simp) z
      · exact n2.1 (by simp [z])
    · subst e
      exact dis a (by simp [hb]) ha
    · subst e
      rcases List.mem_append.mp hb with hb | hb
      · exact dis a (by simp [ha]) hb
      · exact n3.2.2 a ha a (List.mem_append_right _ hb) rfl
  · rw [g.fn c (by rw [h.ins]; simp)]; exact h.fc
  · show F' y.ds = none
    rw [g.fn y.ds (by rw [h.ds]; simp)]; exact h.fd
end
end Ct

set_option Elab.async false
set_option linter.all false
set_option maxRecDepth 100000
set_option maxHeartbeats 4000000
namespace Ct
open PySem PySem.Spec PyProof.Rows L2
theorem putF_le (f : Str) (v : V) : ∀ fs : List (Str × V), (putF f v fs).length ≤ fs.length + 1
  | [] => by simp [putF]
  | (g, x) :: r => by
    have ih := putF_le f v r
    unfold putF
    split
    · simp
    · simp only [List.length_cons]
      omega
structure DateNew (C : Addr) (H H' : Hp) (p dx : Addr) (x : DA) : Prop where
  edx : x.dx = dx
  ins : H' p = some (.ins C dx (dF x Cl09.blank false))
  nm : H' x.nm = some (.lst [])
  rg : H' x.rg = some (.lst [])
  tg : H' x.tg = some (.lst [])
  ot : H' x.ot = some (.lst [])
  fnm : H x.nm = none
  frg : H x.rg = none
  ftg : H x.tg = none
  fot : H x.ot = none
  nd : [p, x.nm, x.rg, x.tg, x.ot].Nodup
  tps : x.tps = []
  ops : x.ops = []
  keep : ∀ b o, H b = some o → b ≠ p → H' b = some o
def spDateInit (C : Addr) : Sp := fun vs H Q _ => ∃ (p dx : Addr), vs = [.ref p] ∧ H p = some (.ins C dx []) ∧ ∀ H' x, DateNew C H H' p dx x → Q .non H'
section
variable {P : Program} {w : World} {K : PySem.W.Frag} {mg : Str → Option Value} {base : Heap} {A : Ad}
theorem ok_Date_init (T : Txt K mg A) : FnOk P w K mg base CX0 1 A.f_Date_init A.d_Date_init ["self"] (spDateInit A.c_Date) := by
  refine T.F_Date_init.ok sc_Date_init (fun vs H Q E h => ?_) (fun cdv Ar outer s H vs Q E hr h => ?_)
  · obtain ⟨p, dx, rfl, _⟩ := h
    rfl
  · obtain ⟨p, dx, rfl, hp, k⟩ := h
    refine ⟨_, (pss_cons (ps_fld (pv 0) pe_non rfl)
      (pss_cons (ps_fld (pv 0) pe_non rfl)
      (pss_cons (ps_fld (pv 0) pe_int rfl)
      (pss_cons (ps_fld (pv 0) (pe_lst pa_nil) rfl)
      (pss_cons (ps_fld (pv 0) (pe_lst pa_nil) rfl)
      (pss_cons (ps_fld (pv 0) (pe_lst pa_nil) rfl)
      (pss_one (ps_fld (pv 0) (pe_lst pa_nil) rfl)))))))), ?_⟩
    refine ⟨_, rfl, p, A.c_Date, dx, [], rfl, hp, T.C_Date, T.n_Date_day, (by show 0 < 1000; decide), ?_⟩
    have l1 := putF_le "day" .non []
    refine ⟨_, rfl, p, A.c_Date, dx, _, rfl, upd_same, T.C_Date, T.n_Date_minute, Nat.lt_of_le_of_lt l1 (by decide), ?_⟩
    have l2 := Nat.le_trans (putF_le "minute" .non _) (Nat.succ_le_succ l1)
    refine ⟨_, rfl, p, A.c_Date, dx, _, rfl, upd_same, T.C_Date, T.n_Date_length, Nat.lt_of_le_of_lt l2 (by decide), ?_⟩
    have l3 := Nat.le_trans (putF_le "length" (.int 0) _) (Nat.succ_le_succ l2)
    refine ⟨Nat.zero_le _, fun nm hnm => ?_⟩
    have pn : p ≠ nm := fun e => by rw [← e, upd_same] at hnm; cases hnm
    refine ⟨_, rfl, p, A.c_Date, dx, _, rfl, (upd_ne pn).trans upd_same, T.C_Date, T.n_Date_name, Nat.lt_of_le_of_lt l3 (by decide), ?_⟩
    have l4 := Nat.le_trans (putF_le "name" (.ref nm) _) (Nat.succ_le_succ l3)
    refine ⟨Nat.zero_le _, fun rg hrg => ?_⟩
    have pr : p ≠ rg := fun e => by rw [← e, upd_same] at hrg; cases hrg
    have nr : nm ≠ rg := fun e => by rw [← e, upd_ne pn.symm, upd_same] at hrg; cases hrg
    refine ⟨_, rfl, p, A.c_Date, dx, _, rfl, (upd_ne pr).trans upd_same, T.C_Date, T.n_Date_rings, Nat.lt_of_le_of_lt l4 (by decide), ?_⟩
    have l5 := Nat.le_trans (putF_le "rings" (.ref rg) _) (Nat.succ_le_succ l4)
    refine ⟨Nat.zero_le _, fun tg htg => ?_⟩
    have pt : p ≠ tg := fun e => by rw [← e, upd_same] at htg; cases htg
    have rt : rg ≠ tg := fun e => by rw [← e, upd_ne pr.symm, upd_same] at htg; cases htg
    have nt : nm ≠ tg := fun e => by rw [← e, upd_ne pn.symm, upd_ne nr, upd_ne pn.symm, upd_same] at htg; cases htg
    refine ⟨_, rfl, p, A.c_Date, dx, _, rfl, (upd_ne pt).trans upd_same, T.C_Date, T.n_Date_tags, Nat.lt_of_le_of_lt l5 (by decide), ?_⟩
    have l6 := Nat.le_trans (putF_le "tags" (.ref tg) _) (Nat.succ_le_succ l5)
    refine ⟨Nat.zero_le _, fun ot hot => ?_⟩
    have po : p ≠ ot := fun e => by rw [← e, upd_same] at hot; cases hot
    have to_ : tg ≠ ot := fun e => by rw [← e, upd_ne pt.symm, upd_same] at hot; cases hot
    have ro : rg ≠ ot := fun e => by rw [← e, upd_ne pr.symm, upd_ne rt, upd_ne pr.symm, upd_same] at hot; cases hot
    have no : nm ≠ ot := fun e => by rw [← e, upd_ne pn.symm, upd_ne nt, upd_ne pn.symm, upd_ne nr, upd_ne pn.symm, upd_same] at hot; cases hot
    refine ⟨_, rfl, p, A.c_Date, dx, _, rfl, (upd_ne po).trans upd_same, T.C_Date, T.n_Date_others, Nat.lt_of_le_of_lt l6 (by decide), ?_⟩
    have fnm : H nm = none := by rw [upd_ne pn.symm, upd_ne pn.symm, upd_ne pn.symm] at hnm; exact hnm
    have frg : H rg = none := by rw [upd_ne pr.symm, upd_ne nr.symm, upd_ne pr.symm, upd_ne pr.symm, upd_ne pr.symm] at hrg; exact hrg
    have ftg : H tg = none := by rw [upd_ne pt.symm, upd_ne rt.symm, upd_ne pt.symm, upd_ne nt.symm, upd_ne pt.symm, upd_ne pt.symm, upd_ne pt.symm] at htg; exact htg
    have fot : H ot = none := by rw [upd_ne po.symm, upd_ne to_.symm, upd_ne po.symm, upd_ne ro.symm, upd_ne po.symm, upd_ne no.symm, upd_ne po.symm, upd_ne po.symm, upd_ne po.symm] at hot; exact hot
    refine k _ ⟨dx, nm, rg, tg, ot, [], []⟩ ⟨rfl, ?_, ?_, ?_, ?_, ?_, fnm, frg, ftg, fot, ?_, rfl, rfl, ?_⟩
    · rw [upd_same, new_date]
      rfl
    · show (upd _ _ _) nm = some _
      rw [upd_ne pn.symm, upd_ne no, upd_ne pn.symm, upd_ne nt, upd_ne pn.symm, upd_ne nr, upd_ne pn.symm, upd_same]
    · show (upd _ _ _) rg = some _
      rw [upd_ne pr.symm, upd_ne ro, upd_ne pr.symm, upd_ne rt, upd_ne pr.symm, upd_same]
    · show (upd _ _ _) tg = some _
      rw [upd_ne pt.symm, upd_ne to_, upd_ne pt.symm, upd_same]
    · show (upd _ _ _) ot = some _
      rw [upd_ne po.symm, upd_same]
    · simp [pn, pr, pt, po, nr, nt, no, rt, ro, to_]
    · intro b o e hb
      rw [upd_ne hb, upd_ne (ne_of_none e fot), upd_ne hb, upd_ne (ne_of_none e ftg), upd_ne hb, upd_ne (ne_of_none e frg), upd_ne hb, upd_ne (ne_of_none e fnm), upd_ne hb, upd_ne hb, upd_ne hb]
      exact e
/-- a new date -/
theorem date_made {C : Addr} {F H0 H' : Hp} {d dx : Addr} {x : DA} (s : Same F H0) (nd : H0 d = none) (ndx : H0 dx = none) (ne : dx ≠ d) (N : DateNew C (upd (upd H0 dx (.own d)) d (.ins C dx [])) H' d dx x) :
    More F H0 (upd F x.nm (.lst (nv []))) H' ∧ DateAt C (upd F x.nm (.lst (nv []))) H' d x Cl09.blank false ∧ ∀ m ∈ muts d x, H0 m = none := by
  have up : ∀ {b : Addr}, (upd (upd H0 dx (.own d)) d (.ins C dx [])) b = none → H0 b = none := fun {b} h => by
    have h1 : b ≠ d := fun e => by rw [e, upd_same] at h; cases h
    rw [upd_ne h1] at h
    have h2 : b ≠ dx := fun e => by rw [e, upd_same] at h; cases h
    rw [upd_ne h2] at h
    exact h
  have sm : Same H0 H' := fun b o e => N.keep b o (by rw [upd_ne (ne_of_none e nd), upd_ne (ne_of_none e ndx)]; exact e) (ne_of_none e nd)
  have hm : ∀ m ∈ muts d x, H0 m = none := by
    intro m hm
    have h : m = d ∨ m = x.rg ∨ m = x.tg ∨ m = x.ot := by simpa [muts] using hm
    rcases h with rfl | rfl | rfl | rfl
    · exact nd
    · exact up N.frg
    · exact up N.ftg
    · exact up N.fot
  have n := N.nd
  simp only [List.nodup_cons, List.mem_cons, not_or, List.not_mem_nil, not_false_eq_true, List.nodup_nil, and_true] at n
  have M := More.freeze s sm (up N.fnm) (show H' x.nm = some (.lst (nv [])) from N.nm)
  refine ⟨M, ⟨?_, upd_same, N.rg, ?_, ?_, ?_, ?_, ?_, ?_⟩, hm⟩
  · rw [N.ins, N.edx]
  · rw [N.tg, N.tps]
    rfl
  · rw [N.tps]
    trivial
  · rw [N.ot, N.ops]
    rfl
  · rw [N.ops]
    trivial
  · simp [muts, n]
  · intro m h
    have h0 := hm m h
    have h : m = d ∨ m = x.rg ∨ m = x.tg ∨ m = x.ot := by simpa [muts] using h
    have ne2 : m ≠ x.nm := by
      rcases h with rfl | rfl | rfl | rfl
      · exact n.1.1
      · exact fun e => n.2.1.1 e.symm
      · exact fun e => n.2.1.2.1 e.symm
      · exact fun e => n.2.1.2.2 e.symm
    rw [upd_ne ne2]
    exact s.free h0
structure CalNew (C : Addr) (H H' : Hp) (p dx tt ds : Addr) : Prop where
  ins : H' p = some (.ins C dx (cFs (.ref tt) (.ref ds)))
  att : H' tt = some (.lst [])
  ads : H' ds = some (.lst [])
  ftt : H tt = none
  fds : H ds = none
  nd : [p, tt, ds].Nodup
  keep : ∀ b o, H b = some o → b ≠ p → H' b = some o
def spCalInit (C : Addr) : Sp := fun vs H Q _ => ∃ (p dx : Addr), vs = [.ref p] ∧ H p = some (.ins C dx []) ∧ ∀ H' tt ds, CalNew C H H' p dx tt ds → Q .non H'
theorem ok_Calendar_init (T : Txt K mg A) : FnOk P w K mg base CX0 1 A.f_Calendar_init A.d_Calendar_init ["self"] (spCalInit A.c_Calendar) := by
  refine T.F_Calendar_init.ok sc_Calendar_init (fun vs H Q E h => ?_) (fun cdv Ar outer s H vs Q E hr h => ?_)
  · obtain ⟨p, dx, rfl, _⟩ := h
    rfl
  · obtain ⟨p, dx, rfl, hp, k⟩ := h
    refine ⟨_, (pss_cons (ps_fld (pv 0) (pe_lst pa_nil) rfl)
      (pss_one (ps_fld (pv 0) (pe_lst pa_nil) rfl))), ?_⟩
    refine ⟨Nat.zero_le _, fun tt htt => ?_⟩
    have pt : p ≠ tt := ne_of_none hp htt
    refine ⟨_, rfl, p, A.c_Calendar, dx, [], rfl, (upd_ne pt).trans hp, T.C_Calendar, T.n_Calendar_title, (by show 0 < 1000; decide), ?_⟩
    have l1 := putF_le "title" (.ref tt) []
    refine ⟨Nat.zero_le _, fun ds hds => ?_⟩
    have pd : p ≠ ds := fun e => by rw [← e, upd_same] at hds; cases hds
    have td : tt ≠ ds := fun e => by rw [← e, upd_ne pt.symm, upd_same] at hds; cases hds
    refine ⟨_, rfl, p, A.c_Calendar, dx, _, rfl, (upd_ne pd).trans upd_same, T.C_Calendar, T.n_Calendar_dates, Nat.lt_of_le_of_lt l1 (by decide), ?_⟩
    have fds : H ds = none := by rw [upd_ne pd.symm, upd_ne td.symm] at hds; exact hds
    refine k _ tt ds ⟨?_, ?_, ?_, htt, fds, ?_, ?_⟩
    · rw [upd_same, new_cal]
    · rw [upd_ne pt.symm, upd_ne td, upd_ne pt.symm, upd_same]
    · rw [upd_ne pd.symm, upd_same]
    · simp [pt, pd, td]
    · intro b o e hb
      rw [upd_ne hb, upd_ne (ne_of_none e fds), upd_ne hb, upd_ne (ne_of_none e htt)]
      exact e
/-- a new calendar -/
theorem cal_made {C CD : Addr} {F H0 H' : Hp} {c dx tt ds : Addr} (s : Same F H0) (nc : H0 c = none) (ndx : H0 dx = none) (ne : dx ≠ c) (N : CalNew C (upd (upd H0 dx (.own c)) c (.ins C dx [])) H' c dx tt ds) :
    More F H0 (upd F tt (.lst (nv []))) H' ∧ CalAt C CD (upd F tt (.lst (nv []))) H' c ⟨dx, tt, ds, []⟩ [] [] ∧ ∀ m ∈ mutsC c ⟨dx, tt, ds, []⟩, H0 m = none := by
  have up : ∀ {b : Addr}, (upd (upd H0 dx (.own c)) c (.ins C dx [])) b = none → H0 b = none := fun {b} h => by
    have h1 : b ≠ c := fun e => by rw [e, upd_same] at h; cases h
    rw [upd_ne h1] at h
    have h2 : b ≠ dx := fun e => by rw [e, upd_same] at h; cases h
    rw [upd_ne h2] at h
    exact h
  have sm : Same H0 H' := fun b o e => N.keep b o (by rw [upd_ne (ne_of_none e nc), upd_ne (ne_of_none e ndx)]; exact e) (ne_of_none e nc)
  have n := N.nd
  simp only [List.nodup_cons, List.mem_cons, not_or, List.not_mem_nil, not_false_eq_true, List.nodup_nil, and_true] at n
  have M := More.freeze s sm (up N.ftt) (show H' tt = some (.lst (nv [])) from N.att)
  refine ⟨M, ⟨N.ins, upd_same, N.ads, trivial, ?_, ?_, ?_, M.sm⟩, ?_⟩
  · simp [mutsC, mutsL, n]
  · rw [upd_ne n.1.1]
    exact s.free nc
  · show (upd F tt _) ds = none
    rw [upd_ne (fun e => n.2 e.symm)]
    exact s.free (up N.fds)
  · intro m hm
    have h : m = c ∨ m = ds := by simpa [mutsC, mutsL] using hm
    rcases h with rfl | rfl
    · exact nc
    · exact up N.fds
end
end Ct

set_option Elab.async false
set_option linter.all false
set_option maxRecDepth 100000
set_option maxHeartbeats 4000000
namespace Ct
open PySem PySem.Spec PyProof.Rows L2
/-! ### a date written -/
section
variable {C : Addr} {F0 H0 F H : Hp} {d : Addr} {x x' : DA} {r r' : Cl09.Date} {has has' : Bool}
theorem DateAt.write (M : More F0 H0 F H) (D : DateAt C F0 H0 d x r has) (edx : x'.dx = x.dx) (nm : F x'.nm = some (.lst (nv r'.name)))
    (rg : H x'.rg = some (.lst (nv r'.rings))) (rgn : x'.rg = x.rg ∨ (H0 x'.rg = none ∧ F x'.rg = none))
    (tg : H x'.tg = some (.lst (x'.tps.map V.ref))) (tgn : x'.tg = x.tg ∨ (H0 x'.tg = none ∧ F x'.tg = none)) (tgr : RowsAt F x'.tps r'.tags)
    (ot : x'.ot = x.ot) (ops : x'.ops = x.ops) (ex : r'.extra = r.extra) (ne : x'.rg ≠ x'.tg) :
    DateAt C F (upd H d (.ins C x.dx (dF x' r' has'))) d x' r' has' ∧ Grow (muts d x) (muts d x') F0 H0 F (upd H d (.ins C x.dx (dF x' r' has'))) := by
  have n := D.nd
  simp only [muts, List.nodup_cons, List.mem_cons, not_or, List.not_mem_nil, not_false_eq_true, List.nodup_nil, and_true] at n
  have td := D.trk d (by simp [muts])
  have tr := D.trk x.rg (by simp [muts])
  have tt := D.trk x.tg (by simp [muts])
  have to_ := D.trk x.ot (by simp [muts])
  have ff : ∀ m ∈ muts d x, F m = none := fun m hm => by rw [M.fn m (D.trk m hm)]; exact D.fr m hm
  have rd : x'.rg ≠ d := by
    rcases rgn with e | e
    · rw [e]; exact fun z => n.1.1 z.symm
    · exact fun z => td (by rw [← z]; exact e.1)
  have tdn : x'.tg ≠ d := by
    rcases tgn with e | e
    · rw [e]; exact fun z => n.1.2.1 z.symm
    · exact fun z => td (by rw [← z]; exact e.1)
  have ro : x'.rg ≠ x.ot := by
    rcases rgn with e | e
    · rw [e]; exact n.2.1.2
    · exact fun z => to_ (by rw [← z]; exact e.1)
  have tgo : x'.tg ≠ x.ot := by
    rcases tgn with e | e
    · rw [e]; exact n.2.2
    · exact fun z => to_ (by rw [← z]; exact e.1)
  have od : x.ot ≠ d := fun z => n.1.2.2 z.symm
  refine ⟨⟨?_, nm, (upd_ne rd).trans rg, (upd_ne tdn).trans tg, tgr, ?_, ?_, ?_, ?_⟩, ?_, M.ff, M.fn, ?_, ?_, fun b hb => upd_tr (same_tr M.hh hb)⟩
  · rw [upd_same, edx]
  · rw [ot, ops, upd_ne od]
    exact M.hh _ _ D.ot
  · rw [ops, ex]
    exact D.otr.same M.ff
  · simp only [muts, ot, List.nodup_cons, List.mem_cons, not_or, List.not_mem_nil, not_false_eq_true, List.nodup_nil, and_true]
    exact ⟨⟨rd.symm, tdn.symm, od.symm⟩, ⟨ne, ro⟩, tgo⟩
  · intro m hm
    have h : m = d ∨ m = x'.rg ∨ m = x'.tg ∨ m = x'.ot := by simpa [muts] using hm
    rcases h with rfl | rfl | rfl | rfl
    · exact ff _ (by simp [muts])
    · rcases rgn with e | e
      · rw [e]; exact ff _ (by simp [muts])
      · exact e.2
    · rcases tgn with e | e
      · rw [e]; exact ff _ (by simp [muts])
      · exact e.2
    · rw [ot]; exact ff _ (by simp [muts])
  · intro b o e hb
    rw [upd_ne fun z => hb (by rw [z]; simp [muts])]
    exact M.hh _ _ e
  · exact same_set M.sm (ff d (by simp [muts]))
  · intro m hm
    have h : m = d ∨ m = x'.rg ∨ m = x'.tg ∨ m = x'.ot := by simpa [muts] using hm
    rcases h with rfl | rfl | rfl | rfl
    · exact .inl (by simp [muts])
    · rcases rgn with e | e
      · rw [e]; exact .inl (by simp [muts])
      · exact .inr e.1
    · rcases tgn with e | e
      · rw [e]; exact .inl (by simp [muts])
      · exact .inr e.1
    · rw [ot]; exact .inl (by simp [muts])
/-- one of its lists written where it stands -/
theorem DateAt.poke (M : More F0 H0 F H) (D : DateAt C F0 H0 d x r has) (edx : x'.dx = x.dx) (enm : x'.nm = x.nm) (erg : x'.rg = x.rg) (etg : x'.tg = x.tg) (eot : x'.ot = x.ot)
    (hd : r'.day = r.day) (hm : r'.minute = r.minute) (hl : r'.long = r.long) (hn : r'.name = r.name) {H' : Hp} {m : Addr} {o : HO} (hH : H' = upd H m o) (hm' : m = x.rg ∨ m = x.tg ∨ m = x.ot)
    (rg : H' x.rg = some (.lst (nv r'.rings))) (tg : H' x.tg = some (.lst (x'.tps.map V.ref))) (tgr : RowsAt F x'.tps r'.tags) (ot : H' x.ot = some (.lst (x'.ops.map fun o => V.ref o.1))) (otr : OthersAt F x'.ops r'.extra) :
    DateAt C F H' d x' r' has ∧ Grow (muts d x) (muts d x') F0 H0 F H' := by
  have n := D.nd
  simp only [muts, List.nodup_cons, List.mem_cons, not_or, List.not_mem_nil, not_false_eq_true, List.nodup_nil, and_true] at n
  have em : muts d x' = muts d x := by simp [muts, erg, etg, eot]
  have ff : ∀ m ∈ muts d x, F m = none := fun m hm => by rw [M.fn m (D.trk m hm)]; exact D.fr m hm
  have mm : m ∈ muts d x := by rcases hm' with e | e | e <;> simp [muts, e]
  have md : d ≠ m := by
    rcases hm' with e | e | e
    · rw [e]; exact n.1.1
    · rw [e]; exact n.1.2.1
    · rw [e]; exact n.1.2.2
  have ed : dF x' r' has = dF x r has := by simp only [dF, enm, erg, etg, eot, hd, hm, hl]
  refine ⟨⟨?_, ?_, by rw [erg]; exact rg, by rw [etg]; exact tg, tgr, by rw [eot]; exact ot, otr, by rw [em]; exact D.nd, by rw [em]; exact ff⟩, ?_, M.ff, M.fn, ?_, fun b hb => .inl (by rw [em] at hb; exact hb), fun b hb => by rw [hH]; exact upd_tr (same_tr M.hh hb)⟩
  · rw [hH, upd_ne md, edx, ed]
    exact M.hh _ _ D.ins
  · rw [enm, hn]
    exact M.ff _ _ D.nm
  · intro b ob e hb
    rw [hH, upd_ne fun z => hb (by rw [z]; exact mm)]
    exact M.hh _ _ e
  · rw [hH]
    exact same_set M.sm (ff m mm)
end
theorem if_true_of {c : Bool} {A B : Prop} (hc : c = true) (h : A) : if c = true then A else B := by
  rw [if_pos hc]
  exact h
theorem if_false_of {c : Bool} {A B : Prop} (hc : c = false) (h : B) : if c = true then A else B := by
  rw [hc, if_neg Bool.false_ne_true]
  exact h
/-- what holds of every date -/
structure WF (r : Cl09.Date) : Prop where
  nm : r.name.length ≤ 40
  lg : r.long ≤ 9999
  rl : r.rings.length ≤ 3
  rs : r.rings.Pairwise (· < ·)
  rb : ∀ n ∈ r.rings, n ≤ 9999
  tl : r.tags.length ≤ 5
  tb : ∀ t ∈ r.tags, t.length ≤ 8
  tn : r.tags.Nodup
  el : r.extra.length ≤ 3
  eb : ∀ e ∈ r.extra, e.1.length ≤ 16 ∧ e.2.length ≤ 700
  dy : r.day < 36525
  mi : r.minute < 1440
theorem WF.blank : WF Cl09.blank := by
  constructor <;> simp [Cl09.blank]
abbrev DFn := Cl09.Date → Bool → List Nat → Nat × Cl09.Date × Bool
/-- a date and a value handed over -/
def spDV (C : Addr) (f : DFn) : Sp := fun vs H Q _ => ∃ (d v : Addr) (x : DA) (r : Cl09.Date) (has : Bool) (F : Hp) (l : List Nat), vs = [.ref d, .ref v] ∧ Same F H ∧ DateAt C F H d x r has ∧ WF r ∧ F v = some (.lst (nv l)) ∧ l.length ≤ 1000 ∧
  ∀ F' H' x', Grow (muts d x) (muts d x') F H F' H' → DateAt C F' H' d x' (f r has l).2.1 (f r has l).2.2 → Q (.int ((f r has l).1 : Int)) H'
def fName : DFn := fun r has l => if readN l = [] then (3, r, has) else if r.name ≠ [] then (4, r, has) else (0, { r with name := readN l }, has)
theorem dF_len (x : DA) (r : Cl09.Date) (has : Bool) : (dF x r has).length < 1000 := by show 7 < 1000; decide
theorem nil_of_len {l : List Nat} (h : ((nv l).length : Int) = 0) : l = [] := by
  rw [nv_len] at h
  exact List.eq_nil_of_length_eq_zero (by omega)
section
variable {P : Program} {w : World} {K : PySem.W.Frag} {mg : Str → Option Value} {base : Heap} {A : Ad}
theorem ok_read_date_name (T : Txt K mg A) : FnOk P w K mg base CX0 4 A.f_read_date_name A.d_read_date_name ["date", "value"] (spDV A.c_Date fName) := by
  refine T.F_read_date_name.ok sc_read_date_name (fun vs H Q E h => ?_) (fun cdv Ar outer s H vs Q E hr h => ?_)
  · obtain ⟨d, v, x, r, has, F, l, rfl, _⟩ := h
    rfl
  · obtain ⟨d, v, x, r, has, F, l, rfl, sF, D, W, hv, hl, k⟩ := h
    refine ⟨_, (pss_cons (ps_set (i := 2) sc_read_date_name.nd rfl (Or.inl rfl) (pe_call (ok_read_name T) (hr.mono (by decide)) (by rfl) T.g_read_name T.F_read_name.kp (b_read_name T) .nil pass0 (pa_cons (pv 1) pa_nil)))
      (pss_cons (ps_if (pt_cmpR op_eq (pe_callB call_len_seq (by rfl) T.z_len PySem.boot_len (pa_cons (pv 2) pa_nil)) pe_int (nomark _))
        (pss_one (ps_ret (pe_gi T.g_WRONG_VALUE)))
        pss_nil)
      (pss_cons (ps_if (pt_cmpR op_gt (pe_callB call_len_seq (by rfl) T.z_len PySem.boot_len (pa_cons (pe_fld (pv 0) rfl) pa_nil)) pe_int (nomark _))
        (pss_one (ps_ret (pe_gi T.g_TOO_MANY)))
        pss_nil)
      (pss_cons (ps_fld (pv 0) (pv 2) rfl)
      (pss_one (ps_ret (pe_gi T.g_RIGHT))))))), ?_⟩
    refine ⟨_, rfl, v, l, rfl, sF _ _ hv, by omega, fun H1 p R => ?_⟩
    have M := More.freeze sF R.sm R.nw R.at_
    have D1 := D.more (More.same sF R.sm)
    refine ⟨_, rfl, p, _, rfl, .inl (SqL.of R.at_), rfl, _, rfl, ite2 (fun c => ?_) (fun c => ?_)⟩
    · have e : fName r has l = (3, r, has) := if_pos (nil_of_len (V.int.inj (of_decide_eq_true c)))
      rw [e] at k
      exact k F H1 x (Grow.more (More.same sF R.sm)) D1
    have c1 : ¬ readN l = [] := fun z => c (decide_eq_true (by rw [z]; rfl))
    refine ⟨_, rfl, d, _, _, _, _, rfl, D1.ins, T.C_Date, T.n_Date_name, dFs_name, x.nm, _, rfl, .inl (SqL.of ((sF.trans R.sm) _ _ D.nm)), _, _, rfl, rfl, _, rfl, ite2 (fun c => ?_) (fun c => ?_)⟩
    · have c2 := of_decide_eq_true c
      rw [nv_len] at c2
      have e : fName r has l = (4, r, has) := (if_neg c1).trans (if_pos fun z => by rw [z] at c2; exact absurd c2 (by decide))
      rw [e] at k
      exact k F H1 x (Grow.more (More.same sF R.sm)) D1
    · have c2 : r.name = [] := by
        by_cases z : r.name = []
        · exact z
        · refine absurd (decide_eq_true ?_) c
          rw [nv_len]
          have := List.length_pos_iff.mpr z
          omega
      have e : fName r has l = (0, { r with name := readN l }, has) := (if_neg c1).trans (if_neg fun z => z c2)
      rw [e] at k
      refine ⟨_, rfl, _, rfl, d, _, _, _, rfl, D1.ins, T.C_Date, T.n_Date_name, dF_len _ _ _, ?_⟩
      have n := D.nd
      simp only [muts, List.nodup_cons, List.mem_cons, not_or, List.not_mem_nil, not_false_eq_true, List.nodup_nil, and_true] at n
      have Z := DateAt.write (has' := has) (x' := { x with nm := p }) (r' := { r with name := readN l }) M D rfl upd_same D1.rg (.inl rfl) D1.tg (.inl rfl) (D.tgr.same M.ff) rfl rfl rfl n.2.1.1
      have ep : putF "name" (.ref p) (dF x r has) = dF { x with nm := p } { r with name := readN l } has := put_name
      show Q (.int 0) (upd H1 d (.ins A.c_Date x.dx (putF "name" (.ref p) (dF x r has))))
      rw [ep]
      exact k _ _ _ Z.2 Z.1
theorem upd_upd {H : Hp} {p : Addr} {a b : HO} : upd (upd H p a) p b = upd H p b := by
  funext q
  by_cases z : q = p
  · rw [z, upd_same, upd_same]
  · rw [upd_ne z, upd_ne z, upd_ne z]
def fAt : DFn := fun r has l => if timeI l < 0 then (3, r, has) else if has = true then (4, r, has) else (0, { r with day := (timeI l / 1440).toNat, minute := (timeI l % 1440).toNat }, true)
theorem ok_read_at (T : Txt K mg A) : FnOk P w K mg base CX0 4 A.f_read_at A.d_read_at ["date", "value"] (spDV A.c_Date fAt) := by
  refine T.F_read_at.ok sc_read_at (fun vs H Q E h => ?_) (fun cdv Ar outer s H vs Q E hr h => ?_)
  · obtain ⟨d, v, x, r, has, F, l, rfl, _⟩ := h
    rfl
  · obtain ⟨d, v, x, r, has, F, l, rfl, sF, D, W, hv, hl, k⟩ := h
    refine ⟨_, (pss_cons (ps_set (i := 2) sc_read_at.nd rfl (Or.inl rfl) (pe_call (ok_read_time T) (hr.mono (by decide)) (by rfl) T.g_read_time T.F_read_time.kp (b_read_time T) .nil pass0 (pa_cons (pv 1) pa_nil)))
      (pss_cons (ps_if (pt_cmpR op_lt (pv 2) pe_int (nomark _))
        (pss_one (ps_ret (pe_gi T.g_WRONG_VALUE)))
        pss_nil)
      (pss_cons (ps_if (pt_cmpR op_notN (pe_fld (pv 0) rfl) pe_non (nomark _))
        (pss_one (ps_ret (pe_gi T.g_TOO_MANY)))
        pss_nil)
      (pss_cons (ps_fld (pv 0) (pe_op op_fdiv (pv 2) (pe_gi T.g_DAY_MINUTES)) rfl)
      (pss_cons (ps_fld (pv 0) (pe_op op_mod (pv 2) (pe_gi T.g_DAY_MINUTES)) rfl)
      (pss_one (ps_ret (pe_gi T.g_RIGHT)))))))), ?_⟩
    refine ⟨_, rfl, v, l, rfl, sF _ _ hv, by omega, fun H1 s1 => ?_⟩
    have M := More.same sF s1
    have D1 := D.more M
    refine ⟨_, rfl, _, _, rfl, rfl, _, rfl, ite2 (fun c => ?_) (fun c => ?_)⟩
    · have e : fAt r has l = (3, r, has) := if_pos (of_decide_eq_true c)
      rw [e] at k
      exact k F H1 x (Grow.more M) D1
    have c1 : ¬ timeI l < 0 := fun z => c (decide_eq_true z)
    refine ⟨_, rfl, d, _, _, _, _, rfl, D1.ins, T.C_Date, T.n_Date_day, dFs_day, rfl, _, rfl, ?_⟩
    cases has with
    | true =>
      have e : fAt r true l = (4, r, true) := (if_neg c1).trans (if_pos rfl)
      rw [e] at k
      refine if_true_of (by simp) ?_
      exact k F H1 x (Grow.more M) D1
    | false =>
      have e : fAt r false l = (0, { r with day := (timeI l / 1440).toNat, minute := (timeI l % 1440).toNat }, true) := (if_neg c1).trans (if_neg Bool.false_ne_true)
      rw [e] at k
      refine if_false_of (by simp) ?_
      refine ⟨_, rfl, _, _, rfl, rfl, ⟨by decide, by decide⟩, _, rfl, d, _, _, _, rfl, D1.ins, T.C_Date, T.n_Date_day, dF_len _ _ _, ?_⟩
      refine ⟨_, rfl, _, _, rfl, rfl, (by show (0 : Int) < 1440; decide), _, rfl, d, _, _, _, rfl, upd_same, T.C_Date, T.n_Date_minute, Nat.lt_of_le_of_lt (putF_le _ _ _) (by show 8 < 1000; decide), ?_⟩
      have n := D.nd
      simp only [muts, List.nodup_cons, List.mem_cons, not_or, List.not_mem_nil, not_false_eq_true, List.nodup_nil, and_true] at n
      have Z := DateAt.write (has' := true) (x' := x) (r' := { r with day := (timeI l / 1440).toNat, minute := (timeI l % 1440).toNat }) M D rfl D.nm D1.rg (.inl rfl) D1.tg (.inl rfl) D.tgr rfl rfl rfl n.2.1.1
      have e1 : ((timeI l / 1440).toNat : Int) = timeI l / 1440 := by omega
      have e2 : ((timeI l % 1440).toNat : Int) = timeI l % 1440 := by omega
      have ep : putF "minute" (.int (timeI l % 1440)) (putF "day" (.int (timeI l / 1440)) (dF x r false)) = dF x { r with day := (timeI l / 1440).toNat, minute := (timeI l % 1440).toNat } true := by
        have a1 : putF "day" (.int (timeI l / 1440)) (dF x r false) = dFs (.int (timeI l / 1440)) .non (.int (r.long : Int)) (.ref x.nm) (.ref x.rg) (.ref x.tg) (.ref x.ot) := put_day
        rw [a1, put_minute]
        unfold dF
        simp only [if_true, e1, e2]
      show Q (.int 0) (upd (upd H1 d _) d (.ins A.c_Date x.dx (putF "minute" (.int (timeI l % 1440)) (putF "day" (.int (timeI l / 1440)) (dF x r false)))))
      rw [ep, upd_upd]
      exact k _ _ _ Z.2 Z.1
def fLong : DFn := fun r has l => if numberI l < 1 then (3, r, has) else if 0 < r.long then (4, r, has) else (0, { r with long := (numberI l).toNat }, has)
theorem ok_read_long (T : Txt K mg A) : FnOk P w K mg base CX0 3 A.f_read_long A.d_read_long ["date", "value"] (spDV A.c_Date fLong) := by
  refine T.F_read_long.ok sc_read_long (fun vs H Q E h => ?_) (fun cdv Ar outer s H vs Q E hr h => ?_)
  · obtain ⟨d, v, x, r, has, F, l, rfl, _⟩ := h
    rfl
  · obtain ⟨d, v, x, r, has, F, l, rfl, sF, D, W, hv, hl, k⟩ := h
    refine ⟨_, (pss_cons (ps_set (i := 2) sc_read_long.nd rfl (Or.inl rfl) (pe_call (ok_read_number T) (hr.mono (by decide)) (by rfl) T.g_read_number T.F_read_number.kp (b_read_number T) .nil pass0 (pa_cons (pv 1) pa_nil)))
      (pss_cons (ps_if (pt_cmpR op_lt (pv 2) pe_int (nomark _))
        (pss_one (ps_ret (pe_gi T.g_WRONG_VALUE)))
        pss_nil)
      (pss_cons (ps_if (pt_cmpR op_gt (pe_fld (pv 0) rfl) pe_int (nomark _))
        (pss_one (ps_ret (pe_gi T.g_TOO_MANY)))
        pss_nil)
      (pss_cons (ps_fld (pv 0) (pv 2) rfl)
      (pss_one (ps_ret (pe_gi T.g_RIGHT))))))), ?_⟩
    refine ⟨_, rfl, v, l, rfl, sF _ _ hv, by omega, fun H1 s1 => ?_⟩
    have M := More.same sF s1
    have D1 := D.more M
    refine ⟨_, rfl, _, _, rfl, rfl, _, rfl, ite2 (fun c => ?_) (fun c => ?_)⟩
    · have e : fLong r has l = (3, r, has) := if_pos (of_decide_eq_true c)
      rw [e] at k
      exact k F H1 x (Grow.more M) D1
    have c1 : ¬ numberI l < 1 := fun z => c (decide_eq_true z)
    refine ⟨_, rfl, d, _, _, _, _, rfl, D1.ins, T.C_Date, T.n_Date_length, dFs_length, _, _, rfl, rfl, _, rfl, ite2 (fun c => ?_) (fun c => ?_)⟩
    · have c2 := of_decide_eq_true c
      have e : fLong r has l = (4, r, has) := (if_neg c1).trans (if_pos (by omega))
      rw [e] at k
      exact k F H1 x (Grow.more M) D1
    · have c2 : ¬ (0 : Int) < (r.long : Int) := fun z => c (decide_eq_true z)
      have e : fLong r has l = (0, { r with long := (numberI l).toNat }, has) := (if_neg c1).trans (if_neg (by omega))
      rw [e] at k
      refine ⟨_, rfl, _, rfl, d, _, _, _, rfl, D1.ins, T.C_Date, T.n_Date_length, dF_len _ _ _, ?_⟩
      have n := D.nd
      simp only [muts, List.nodup_cons, List.mem_cons, not_or, List.not_mem_nil, not_false_eq_true, List.nodup_nil, and_true] at n
      have Z := DateAt.write (has' := has) (x' := x) (r' := { r with long := (numberI l).toNat }) M D rfl D.nm D1.rg (.inl rfl) D1.tg (.inl rfl) D.tgr rfl rfl rfl n.2.1.1
      have e1 : ((numberI l).toNat : Int) = numberI l := by omega
      have ep : putF "length" (.int (numberI l)) (dF x r has) = dF x { r with long := (numberI l).toNat } has := by
        unfold dF
        rw [put_length]
        simp only [e1]
      show Q (.int 0) (upd H1 d (.ins A.c_Date x.dx (putF "length" (.int (numberI l)) (dF x r has))))
      rw [ep]
      exact k _ _ _ Z.2 Z.1
/-! ### rings -/
theorem inV_nv (n : Nat) : ∀ l : List Nat, inV (.int (n : Int)) (nv l) = decide (n ∈ l)
  | [] => by simp [inV, nv]
  | m :: r => by
    have ih := inV_nv n r
    have e : inV (.int (n : Int)) (nv (m :: r)) = (eqV (.int (m : Int)) (.int (n : Int)) || inV (.int (n : Int)) (nv r)) := rfl
    rw [e, ih]
    by_cases h : m = n
    · subst h
      simp [eqV]
    · have q : eqV (.int (m : Int)) (.int (n : Int)) = false := by
        show ((m : Int) == (n : Int)) = false
        exact beq_eq_false_iff_ne.mpr (by omega)
      have h2 : ¬ n = m := fun z => h z.symm
      rw [q, Bool.false_or]
      simp [h2]
theorem flat_nv : ∀ l : List Nat, (nv l).all flatV = true
  | [] => rfl
  | m :: r => by
    show (flatV (.int (m : Int)) && (nv r).all flatV) = true
    rw [flat_nv r]
    rfl
theorem ins_perm (n : Nat) : ∀ l : List Nat, (Cl09.insert n l).Perm (n :: l)
  | [] => .refl _
  | m :: r => by
    unfold Cl09.insert
    split
    · exact .refl _
    · exact ((ins_perm n r).cons m).trans (.swap n m r)
theorem ins_mem {n a : Nat} {l : List Nat} : a ∈ Cl09.insert n l ↔ a = n ∨ a ∈ l := by
  rw [(ins_perm n l).mem_iff]
  simp
theorem ins_sorted {n : Nat} : ∀ {l : List Nat}, l.Pairwise (· < ·) → n ∉ l → (Cl09.insert n l).Pairwise (· < ·)
  | [], _, _ => by simp [Cl09.insert]
  | m :: r, h, hn => by
    rw [List.pairwise_cons] at h
    unfold Cl09.insert
    split
    · rename_i c
      refine List.pairwise_cons.mpr ⟨fun a ha => ?_, List.pairwise_cons.mpr h⟩
      rcases List.mem_cons.mp ha with rfl | ha
      · exact c
      · exact Nat.lt_trans c (h.1 a ha)
    · rename_i c
      have hm : ¬ n = m := fun z => hn (by simp [z])
      refine List.pairwise_cons.mpr ⟨fun a ha => ?_, ins_sorted h.2 fun z => hn (List.mem_cons_of_mem _ z)⟩
      rcases ins_mem.mp ha with rfl | ha
      · omega
      · exact h.1 a ha
theorem sorted_ins {n : Nat} {l : List Nat} {ns : List Int} (hs : l.Pairwise (· < ·)) (hn : n ∉ l) (hp : ns.Perm (zs l ++ [(n : Int)])) (ho : ns.Pairwise (· ≤ ·)) : ns = zs (Cl09.insert n l) := by
  have p2 : (zs (Cl09.insert n l)).Perm (zs l ++ [(n : Int)]) := by
    have a := (ins_perm n l).map fun k : Nat => (k : Int)
    have b : (zs (n :: l)).Perm (zs l ++ [(n : Int)]) := by
      show ((n : Int) :: zs l).Perm _
      exact (List.perm_append_singleton _ _).symm
    exact a.trans b
  refine List.Perm.eq_of_pairwise (le := fun (a b : Int) => a ≤ b) (fun a b _ _ h1 h2 => Int.le_antisymm h1 h2) ho ?_ (hp.trans p2.symm)
  have q := ins_sorted hs hn
  unfold zs
  rw [List.pairwise_map]
  exact q.imp fun h => by omega
def fRing : DFn := fun r has l => if numberI l < 0 then (3, r, has) else if (numberI l).toNat ∈ r.rings ∨ 3 ≤ r.rings.length then (4, r, has) else (0, { r with rings := Cl09.insert (numberI l).toNat r.rings }, has)
theorem ok_read_ring (T : Txt K mg A) : FnOk P w K mg base CX0 3 A.f_read_ring A.d_read_ring ["date", "value"] (spDV A.c_Date fRing) := by
  refine T.F_read_ring.ok sc_read_ring (fun vs H Q E h => ?_) (fun cdv Ar outer s H vs Q E hr h => ?_)
  · obtain ⟨d, v, x, r, has, F, l, rfl, _⟩ := h
    rfl
  · obtain ⟨d, v, x, r, has, F, l, rfl, sF, D, W, hv, hl, k⟩ := h
    refine ⟨_, (pss_cons (ps_set (i := 2) sc_read_ring.nd rfl (Or.inl rfl) (pe_call (ok_read_number T) (hr.mono (by decide)) (by rfl) T.g_read_number T.F_read_number.kp (b_read_number T) .nil pass0 (pa_cons (pv 1) pa_nil)))
      (pss_cons (ps_if (pt_cmpR op_lt (pv 2) pe_int (nomark _))
        (pss_one (ps_ret (pe_gi T.g_WRONG_VALUE)))
        pss_nil)
      (pss_cons (ps_if (PW.pt (pw_or (pt_cmpR op_in_seq (pv 2) (pe_fld (pv 0) rfl) (by rfl)) (pw_or1 (pt_cmpR op_ge (pe_callB call_len_seq (by rfl) T.z_len PySem.boot_len (pa_cons (pe_fld (pv 0) rfl) pa_nil)) (pe_gi T.g_MOST_RINGS) (nomark _)))))
        (pss_one (ps_ret (pe_gi T.g_TOO_MANY)))
        pss_nil)
      (pss_cons (ps_fld (pv 0) (pe_callB cr_sorted (by rfl) T.z_sorted (by decide +kernel) (pa_cons (pe_op op_cat (pe_fld (pv 0) rfl) (pe_lst (pa_cons (pv 2) pa_nil))) pa_nil)) rfl)
      (pss_one (ps_ret (pe_gi T.g_RIGHT))))))), ?_⟩
    refine ⟨_, rfl, v, l, rfl, sF _ _ hv, by omega, fun H1 s1 => ?_⟩
    have M := More.same sF s1
    have D1 := D.more M
    refine ⟨_, rfl, _, _, rfl, rfl, _, rfl, ite2 (fun c => ?_) (fun c => ?_)⟩
    · have e : fRing r has l = (3, r, has) := if_pos (of_decide_eq_true c)
      rw [e] at k
      exact k F H1 x (Grow.more M) D1
    have c1 : ¬ numberI l < 0 := fun z => c (decide_eq_true z)
    obtain ⟨n, en⟩ : ∃ n : Nat, numberI l = (n : Int) := ⟨(numberI l).toNat, by omega⟩
    have en2 : (numberI l).toNat = n := by omega
    have full : (n ∈ r.rings ∨ 3 ≤ r.rings.length) → Q (.int 4) H1 := fun z => by
      have e : fRing r has l = (4, r, has) := (if_neg c1).trans (if_pos (by rw [en2]; exact z))
      rw [e] at k
      exact k F H1 x (Grow.more M) D1
    rw [en]
    refine ⟨_, rfl, _, rfl, d, _, _, _, _, rfl, D1.ins, T.C_Date, T.n_Date_rings, dFs_rings, x.rg, _, rfl, .inl (SqL.of D1.rg), rfl, flat_nv _, _, rfl, ?_⟩
    show if inV (.int (n : Int)) (nv r.rings) = true then _ else _
    rw [inV_nv]
    refine ite2 (fun c => ?_) (fun c => ?_)
    · exact iteT (full (.inl (of_decide_eq_true c)))
    have c2 : n ∉ r.rings := fun z => c (decide_eq_true z)
    refine ⟨_, rfl, d, _, _, _, _, rfl, D1.ins, T.C_Date, T.n_Date_rings, dFs_rings, x.rg, _, rfl, .inl (SqL.of D1.rg), _, _, rfl, rfl, _, rfl, ite2 (fun c => ?_) (fun c => ?_)⟩
    · have c3 := of_decide_eq_true c
      rw [nv_len] at c3
      exact full (.inr (by omega))
    · have c3 : ¬ (3 : Int) ≤ ((nv r.rings).length : Int) := fun z => c (decide_eq_true z)
      rw [nv_len] at c3
      have e : fRing r has l = (0, { r with rings := Cl09.insert n r.rings }, has) := by
        unfold fRing
        rw [if_neg c1, en2, if_neg]
        rintro (z | z)
        · exact c2 z
        · omega
      rw [e] at k
      refine ⟨_, rfl, d, _, _, _, _, rfl, D1.ins, T.C_Date, T.n_Date_rings, dFs_rings, _, rfl, (by show 1 ≤ sizeLine; decide), fun q1 nq1 => ?_⟩
      have ng1 : x.rg ≠ q1 := ne_of_none D1.rg nq1
      refine ⟨x.rg, q1, _, _, rfl, rfl, (upd_ne ng1).trans D1.rg, upd_same, ?_, fun q2 nq2 => ?_⟩
      · rw [nv_len]
        have := sz (n := r.rings.length + 1) (by omega)
        show _ + 1 ≤ _
        omega
      refine ⟨q2, zs r.rings ++ [(n : Int)], rfl, SqL.of ?_, ?_, fun ns g hp ho ng => ?_⟩
      · rw [upd_same, List.map_append, zs_v]
        rfl
      · rw [List.length_append]
        simp [zs]
        omega
      have en := sorted_ins W.rs c2 hp ho
      have eg : ns.map V.int = nv (Cl09.insert n r.rings) := by rw [en, zs_v]
      have s2 : Same H1 (upd (upd H1 q1 (.lst [.int (n : Int)])) q2 (.lst (nv r.rings ++ [.int (n : Int)]))) := (same_upd nq1).trans (same_upd nq2)
      have s3 := s2.trans (same_upd (o := .lst (ns.map V.int)) ng)
      have M3 := More.same sF (s1.trans s3)
      have D3 := D.more M3
      have g0 : H g = none := (s1.trans s2).free ng
      refine ⟨_, rfl, d, _, _, _, rfl, D3.ins, T.C_Date, T.n_Date_rings, dF_len _ _ _, ?_⟩
      have nn := D.nd
      simp only [muts, List.nodup_cons, List.mem_cons, not_or, List.not_mem_nil, not_false_eq_true, List.nodup_nil, and_true] at nn
      have gt : g ≠ x.tg := fun z => D.trk x.tg (by simp [muts]) (by rw [← z]; exact g0)
      have Z := DateAt.write (has' := has) (x' := { x with rg := g }) (r' := { r with rings := Cl09.insert n r.rings }) M3 D rfl D.nm (by rw [upd_same, eg]) (.inr ⟨g0, sF.free g0⟩) D3.tg (.inl rfl) D.tgr rfl rfl rfl gt
      have ep : putF "rings" (.ref g) (dF x r has) = dF { x with rg := g } { r with rings := Cl09.insert n r.rings } has := put_rings
      show Q (.int 0) (upd _ d (.ins A.c_Date x.dx (putF "rings" (.ref g) (dF x r has))))
      rw [ep]
      exact k _ _ _ Z.2 Z.1
end
end Ct

set_option Elab.async false
set_option linter.all false
set_option maxRecDepth 100000
set_option maxHeartbeats 4000000
namespace Ct
open PySem PySem.Spec PyProof.Rows L2
/-! ### rows of rows as data -/
theorem dpAll_rows {K : PySem.W.Frag} {H : Hp} : ∀ {ps : List Addr} {ls : List (List Nat)}, RowsAt H ps ls → DpAll K H (ps.map V.ref) (ls.map dn)
  | [], [], _ => .nil
  | _ :: _, _ :: _, h => .cons (dp_row h.1) (dpAll_rows h.2)
  | [], _ :: _, h => h.elim
  | _ :: _, [], h => h.elim
theorem RowsAt.take {H : Hp} : ∀ {ps : List Addr} {ls : List (List Nat)} (i : Nat), RowsAt H ps ls → RowsAt H (ps.take i) (ls.take i)
  | [], [], i, _ => by simp; trivial
  | _ :: _, _ :: _, 0, _ => trivial
  | _ :: _, _ :: _, i + 1, h => ⟨h.1, RowsAt.take i h.2⟩
  | [], _ :: _, _, h => h.elim
  | _ :: _, [], _, h => h.elim
theorem RowsAt.app {H : Hp} : ∀ {ps qs : List Addr} {ls ms : List (List Nat)}, RowsAt H ps ls → RowsAt H qs ms → RowsAt H (ps ++ qs) (ls ++ ms)
  | [], _, [], _, _, h => h
  | _ :: _, _, _ :: _, _, h, k => ⟨h.1, RowsAt.app h.2 k⟩
  | [], _, _ :: _, _, h, _ => h.elim
  | _ :: _, _, [], _, h, _ => h.elim
theorem dns_lay : ∀ ls : List (List Nat), PyData.canLayAll0 (ls.map dn) = true
  | [] => by simp [PyData.canLayAll0]
  | l :: r => by
    have e : (dn l).canLay0 = true := by simp only [dn, PyData.canLay0]; exact dn_lay l
    simp [PyData.canLayAll0, e, dns_lay r]
theorem dns_depth : ∀ ls : List (List Nat), PyData.depthAll (ls.map dn) ≤ 2
  | [] => by simp [PyData.depthAll]
  | l :: r => by
    have h1 := dns_depth r
    have h2 : (dn l).depth ≤ 2 := by
      have := dn_depth l
      simp only [dn, PyData.depth]
      omega
    simp only [List.map_cons, PyData.depthAll]
    omega
theorem sh_rows (ls : List (List Nat)) : SeqAt.shaped (.list (ls.map dn)) = true := by
  have h := dns_depth ls
  have h2 : PyData.depth (.list (ls.map dn)) ≤ 64 := by
    simp only [PyData.depth]
    omega
  show (PyData.canLay0 (.list (ls.map dn)) && decide (PyData.depth (.list (ls.map dn)) ≤ 64)) = true
  rw [Bool.and_eq_true]
  exact ⟨by simp only [PyData.canLay0]; exact dns_lay ls, decide_eq_true h2⟩
theorem any_row (t : List Nat) : ∀ ls : List (List Nat), ((ls.map dn).any fun z => PyData.eqv z (dn t)) = decide (t ∈ ls)
  | [] => by simp
  | l :: r => by
    have ih := any_row t r
    rw [List.map_cons, List.any_cons, ih, eqv_row]
    by_cases h : l = t
    · subst h
      simp
    · have h2 : ¬ t = l := fun z => h z.symm
      simp [h, h2]
/-- new rows that are never written -/
theorem More.freezeRows {F H H' : Hp} {p : Addr} {ps : List Addr} {ls : List (List Nat)} (s : Same F H) (R : NewRows H H' p ps ls) : ∃ F', More F H F' H' ∧ RowsAt F' ps ls ∧ ∀ b, b ∉ ps → F' b = F b := by
  refine ⟨fun b => if b ∈ ps then H' b else F b, ⟨R.sm, fun b o e => ?_, fun b hb => ?_, fun b o e => ?_⟩, R.rows.keep fun q hq o e => ?_, fun b hb => if_neg hb⟩
  · have : b ∉ ps := fun z => by
      have := R.new b z
      rw [s _ _ e] at this
      cases this
    show (if b ∈ ps then H' b else F b) = _
    rw [if_neg this]
    exact e
  · exact if_neg fun z => hb (R.new b z)
  · by_cases z : b ∈ ps
    · have e' : (if b ∈ ps then H' b else F b) = some o := e
      rw [if_pos z] at e'
      exact e'
    · have e' : (if b ∈ ps then H' b else F b) = some o := e
      rw [if_neg z] at e'
      exact R.sm _ _ (s _ _ e')
  · show (if q ∈ ps then H' q else F q) = _
    rw [if_pos hq]
    exact e
section
variable {P : Program} {w : World} {K : PySem.W.Frag} {mg : Str → Option Value} {base : Heap} {A : Ad}
def twice (ls : List (List Nat)) : Bool := !decide ls.Nodup
def spTwice : Sp := fun vs H Q _ => ∃ (a : Addr) (ps : List Addr) (ls : List (List Nat)), vs = [.ref a] ∧ H a = some (.lst (ps.map V.ref)) ∧ RowsAt H ps ls ∧ ∀ H', Same H H' → Q (.bl (twice ls)) H'
theorem ok_has_one_twice (T : Txt K mg A) : FnOk P w K mg base CX0 1 A.f_has_one_twice A.d_has_one_twice ["tags"] spTwice := by
  refine T.F_has_one_twice.ok sc_has_one_twice (fun vs H Q E h => ?_) (fun cdv Ar outer s H vs Q E hr h => ?_)
  · obtain ⟨a, ps, ls, rfl, _⟩ := h
    rfl
  · obtain ⟨a, ps, ls, rfl, ha, rows, q⟩ := h
    have pl := rows.len
    refine ⟨_, (pss_cons (ps_for PassesOwn.never rfl (pi_enum (by rfl) T.z_enumerate (pa_cons (pv 0) pa_nil)) (pg_tup rfl (pgs_cons (pg_name (i := 1) sc_has_one_twice.nd rfl (Or.inl rfl)) (pgs_cons (pg_name (i := 2) sc_has_one_twice.nd rfl (Or.inl rfl)) pgs_nil)))
        (pss_one (ps_if (pt_cmpR (op_inD (hu65 hr)) (pv 2) (pe_slice sl_list (pv 0) po_none (po_some (pv 1))) (by rfl))
          (pss_one (ps_ret pe_bl))
          pss_nil)))
      (pss_one (ps_ret pe_bl))), ?_⟩
    refine ⟨_, rfl, a, _, rfl, SqL.of ha, ?_⟩
    refine for_it (walk_enum (xs := ps.map V.ref)) (fun i σ H' => ∃ v w, σ = [some (.ref a), v, w] ∧ Same H H' ∧ (ls.take i).Nodup) ⟨none, none, rfl, Same.refl H, by simp⟩ (fun _ _ _ _ ⟨_, _, _, sm, _⟩ => sm.seq (SqL.of ha)) ?_ ?_
    · rintro i x σ H1 H2 hi ⟨v, w, rfl, sm, hn⟩ ⟨U, y, z, rfl, nU, rfl, hy, hz⟩
      obtain rfl := Option.some.inj hy
      obtain ⟨b, hb, rfl⟩ := refs_get hz
      obtain ⟨t, ht, hbt⟩ := RowsAt.get rows hb
      have sm2 : Same H (upd H1 U (.tup [.int (i : Nat), .ref b])) := sm.trans (same_upd nU)
      refine ⟨U, _, rfl, .inl (.inl upd_same), rfl, _, _, rfl, _, [], rfl, rfl, ?_⟩
      refine ⟨_, rfl, _, rfl, _, rfl, _, rfl, a, _, rfl, SqL.of (sm2 _ _ ha), fun p np => ?_⟩
      have s3 := sm2.trans (same_upd (o := .lst (cutV (ps.map V.ref) none (some (i : Int)))) np)
      have ec : cutV (ps.map V.ref) none (some (i : Int)) = (ps.take i).map V.ref := by rw [cut_to, List.map_take]
      refine ⟨dn t, (ls.take i).map dn, dp_row (s3 _ _ hbt), .lst (SqL.of upd_same) ?_, sh_row _, sh_rows _, _, rfl, ?_⟩
      · have dd := dpAll_rows (K := K) ((rows.take i).same s3)
        rw [← ec] at dd
        exact dd
      · rw [any_row]
        have tm := take_more ht
        refine ite2 (fun c => ?_) (fun c => ?_)
        · have c1 := of_decide_eq_true c
          refine qb (q _ s3) ?_
          unfold twice
          have : ¬ ls.Nodup := fun z => by
            have z2 : (ls.take (i + 1)).Nodup := z.sublist (List.take_sublist _ _)
            rw [tm] at z2
            exact (List.nodup_append.mp z2).2.2 t c1 t (by simp) rfl
          rw [decide_eq_false this]
          rfl
        · have c1 : t ∉ ls.take i := fun z => c (decide_eq_true z)
          refine ⟨_, _, rfl, s3, ?_⟩
          rw [tm]
          refine List.nodup_append.mpr ⟨hn, by simp, fun a ha b hb e => ?_⟩
          have : b = t := by simpa using hb
          subst this
          subst e
          exact c1 ha
    · rintro σ H1 ⟨v, w, rfl, sm, hn⟩
      refine qb (q _ sm) ?_
      rw [List.length_map, pl, List.take_length] at hn
      unfold twice
      rw [decide_eq_true hn]
      rfl
def fTag : DFn := fun r has l => if tagsP l = [] then (3, r, has) else if 5 < (r.tags ++ tagsP l).length ∨ ¬ (r.tags ++ tagsP l).Nodup then (4, r, has) else (0, { r with tags := r.tags ++ tagsP l }, has)
theorem tagsP_len (l : List Nat) : (tagsP l).length ≤ l.length + 1 := by
  unfold tagsP
  split
  · exact split_len 44 l
  · simp
theorem ok_read_tag (T : Txt K mg A) : FnOk P w K mg base CX0 4 A.f_read_tag A.d_read_tag ["date", "value"] (spDV A.c_Date fTag) := by
  refine T.F_read_tag.ok sc_read_tag (fun vs H Q E h => ?_) (fun cdv Ar outer s H vs Q E hr h => ?_)
  · obtain ⟨d, v, x, r, has, F, l, rfl, _⟩ := h
    rfl
  · obtain ⟨d, v, x, r, has, F, l, rfl, sF, D, W, hv, hl, k⟩ := h
    refine ⟨_, (pss_cons (ps_set (i := 2) sc_read_tag.nd rfl (Or.inl rfl) (pe_call (ok_read_tags T) (hr.mono (by decide)) (by rfl) T.g_read_tags T.F_read_tags.kp (b_read_tags T) .nil pass0 (pa_cons (pv 1) pa_nil)))
      (pss_cons (ps_if (pt_cmpR op_eq (pe_callB call_len_seq (by rfl) T.z_len PySem.boot_len (pa_cons (pv 2) pa_nil)) pe_int (nomark _))
        (pss_one (ps_ret (pe_gi T.g_WRONG_VALUE)))
        pss_nil)
      (pss_cons (ps_set (i := 3) sc_read_tag.nd rfl (Or.inl rfl) (pe_op op_cat (pe_fld (pv 0) rfl) (pv 2)))
      (pss_cons (ps_if (PW.pt (pw_or (pt_cmpR op_gt (pe_callB call_len_seq (by rfl) T.z_len PySem.boot_len (pa_cons (pv 3) pa_nil)) (pe_gi T.g_MOST_TAGS) (nomark _)) (pw_or1 (pt_val (pe_call (ok_has_one_twice T) (hr.mono (by decide)) (by rfl) T.g_has_one_twice T.F_has_one_twice.kp (b_has_one_twice T) .nil pass0 (pa_cons (pv 3) pa_nil))))))
        (pss_one (ps_ret (pe_gi T.g_TOO_MANY)))
        pss_nil)
      (pss_cons (ps_fld (pv 0) (pv 3) rfl)
      (pss_one (ps_ret (pe_gi T.g_RIGHT)))))))), ?_⟩
    refine ⟨_, rfl, v, l, rfl, sF _ _ hv, by omega, fun H1 p ps R => ?_⟩
    have tl := tagsP_len l
    have pl := R.rows.len
    have tpl := D.tgr.len
    have wt := W.tl
    have M0 := More.same sF R.sm
    have D0 := D.more M0
    refine ⟨_, rfl, p, _, rfl, .inl (SqL.of R.at_), rfl, _, rfl, ite2 (fun c => ?_) (fun c => ?_)⟩
    · have c1 := V.int.inj (of_decide_eq_true c)
      rw [List.length_map, pl] at c1
      have e : fTag r has l = (3, r, has) := if_pos (List.eq_nil_of_length_eq_zero (by omega))
      rw [e] at k
      exact k F H1 x (Grow.more M0) D0
    have c1 : ¬ tagsP l = [] := fun z => c (decide_eq_true (by rw [List.length_map, pl, z]; rfl))
    obtain ⟨F1, M1, rows1, F1n⟩ := More.freezeRows sF R
    refine ⟨_, rfl, d, _, _, _, _, rfl, D0.ins, T.C_Date, T.n_Date_tags, dFs_tags, _, rfl, x.tg, p, _, _, rfl, rfl, D0.tg, R.at_, ?_, fun g ng => ?_⟩
    · rw [List.length_map, List.length_map]
      have := sz (n := x.tps.length + ps.length) (by omega)
      omega
    have s2 : Same H1 (upd H1 g (.lst (x.tps.map V.ref ++ ps.map V.ref))) := same_upd ng
    have M2 : More F H F1 (upd H1 g (.lst (x.tps.map V.ref ++ ps.map V.ref))) := M1.trans (More.same M1.sm s2)
    have D2 := D.more M2
    have rows2 : RowsAt (upd H1 g (.lst (x.tps.map V.ref ++ ps.map V.ref))) (x.tps ++ ps) (r.tags ++ tagsP l) := ((D.tgr.same M1.ff).app rows1).same M2.sm
    have eg : x.tps.map V.ref ++ ps.map V.ref = (x.tps ++ ps).map V.ref := by simp
    have full : ∀ H3, Same (upd H1 g (.lst (x.tps.map V.ref ++ ps.map V.ref))) H3 → (5 < (r.tags ++ tagsP l).length ∨ ¬ (r.tags ++ tagsP l).Nodup) → Q (.int 4) H3 := fun H3 s3 z => by
      have e : fTag r has l = (4, r, has) := (if_neg c1).trans (if_pos z)
      rw [e] at k
      have M3 := More.same sF ((R.sm.trans s2).trans s3)
      exact k F H3 x (Grow.more M3) (D.more M3)
    refine ⟨_, rfl, g, _, rfl, .inl (SqL.of upd_same), _, _, rfl, rfl, _, rfl, ite2 (fun c => ?_) (fun c => ?_)⟩
    · have c2 := of_decide_eq_true c
      rw [List.length_append, List.length_map, List.length_map, tpl, pl] at c2
      exact iteT (full _ (Same.refl _) (.inl (by rw [List.length_append]; omega)))
    have c2 : ¬ (5 : Int) < ((x.tps.map V.ref ++ ps.map V.ref).length : Int) := fun z => c (decide_eq_true z)
    rw [List.length_append, List.length_map, List.length_map, tpl, pl] at c2
    refine ⟨_, rfl, g, x.tps ++ ps, r.tags ++ tagsP l, rfl, by rw [upd_same, eg], rows2, fun H3 s3 => ⟨_, rfl, ?_⟩⟩
    unfold twice
    by_cases hn : (r.tags ++ tagsP l).Nodup
    · rw [decide_eq_true hn]
      refine iteF ?_
      have e : fTag r has l = (0, { r with tags := r.tags ++ tagsP l }, has) := (if_neg c1).trans (if_neg (by
        rintro (z | z)
        · rw [List.length_append] at z
          omega
        · exact z hn))
      rw [e] at k
      have M3 : More F H F1 H3 := M2.trans (More.same M2.sm s3)
      have D3 := D.more M3
      have g0 : H g = none := R.sm.free ng
      have Fg : F1 g = none := M1.sm.free ng
      have nn := D.nd
      simp only [muts, List.nodup_cons, List.mem_cons, not_or, List.not_mem_nil, not_false_eq_true, List.nodup_nil, and_true] at nn
      have gr : x.rg ≠ g := fun z => D.trk x.rg (by simp [muts]) (by rw [z]; exact g0)
      refine ⟨_, rfl, _, rfl, d, _, _, _, rfl, D3.ins, T.C_Date, T.n_Date_tags, dF_len _ _ _, ?_⟩
      have Z := DateAt.write (has' := has) (x' := { x with tg := g, tps := x.tps ++ ps }) (r' := { r with tags := r.tags ++ tagsP l }) M3 D rfl (M1.ff _ _ D.nm) D3.rg (.inl rfl) (by rw [s3 _ _ upd_same, eg]) (.inr ⟨g0, Fg⟩) ((D.tgr.same M1.ff).app rows1) rfl rfl rfl gr
      have ep : putF "tags" (.ref g) (dF x r has) = dF { x with tg := g, tps := x.tps ++ ps } { r with tags := r.tags ++ tagsP l } has := put_tags
      show Q (.int 0) (upd H3 d (.ins A.c_Date x.dx (putF "tags" (.ref g) (dF x r has))))
      rw [ep]
      exact k _ _ _ Z.2 Z.1
    · rw [decide_eq_false hn]
      exact iteT (full H3 s3 (.inr hn))
/-! ### others -/
def fOther (r : Cl09.Date) (n v : List Nat) : Nat × Cl09.Date := if 3 ≤ r.extra.length then (4, r) else (0, { r with extra := r.extra ++ [(n, v)] })
def spOther (C : Addr) : Sp := fun vs H Q _ => ∃ (d a v : Addr) (x : DA) (r : Cl09.Date) (has : Bool) (F : Hp) (n l : List Nat), vs = [.ref d, .ref a, .ref v] ∧ Same F H ∧ DateAt C F H d x r has ∧ WF r ∧ F a = some (.lst (nv n)) ∧ F v = some (.lst (nv l)) ∧
  ∀ F' H' x', Grow (muts d x) (muts d x') F H F' H' → DateAt C F' H' d x' (fOther r n l).2 has → Q (.int ((fOther r n l).1 : Int)) H'
/-- one other more, at its list's end -/
theorem DateAt.other {C : Addr} {F H F1 H1 : Hp} {d a v t : Addr} {x : DA} {r : Cl09.Date} {has : Bool} {n l : List Nat} (M : More F H F1 H1) (D : DateAt C F H d x r has) (ht : F1 t = some (.tup [.ref a, .ref v])) (ha : F1 a = some (.lst (nv n))) (hv : F1 v = some (.lst (nv l))) :
    DateAt C F1 (upd H1 x.ot (.lst ((x.ops.map fun o => V.ref o.1) ++ [.ref t]))) d { x with ops := x.ops ++ [(t, a, v)] } { r with extra := r.extra ++ [(n, l)] } has ∧
      Grow (muts d x) (muts d { x with ops := x.ops ++ [(t, a, v)] }) F H F1 (upd H1 x.ot (.lst ((x.ops.map fun o => V.ref o.1) ++ [.ref t]))) := by
  have D1 := D.more M
  have nn := D.nd
  simp only [muts, List.nodup_cons, List.mem_cons, not_or, List.not_mem_nil, not_false_eq_true, List.nodup_nil, and_true] at nn
  exact DateAt.poke (m := x.ot) (x' := { x with ops := x.ops ++ [(t, a, v)] }) (r' := { r with extra := r.extra ++ [(n, l)] }) M D rfl rfl rfl rfl rfl rfl rfl rfl rfl rfl (.inr (.inr rfl)) ((upd_ne nn.2.1.2).trans D1.rg) ((upd_ne nn.2.2).trans D1.tg) (D.tgr.same M.ff) (by rw [upd_same]; simp) (OthersAt.snoc (o := (t, a, v)) (e := (n, l)) ht ha hv (D.otr.same M.ff))
theorem ok_read_other (T : Txt K mg A) : FnOk P w K mg base CX0 1 A.f_read_other A.d_read_other ["date", "name", "value"] (spOther A.c_Date) := by
  refine T.F_read_other.ok sc_read_other (fun vs H Q E h => ?_) (fun cdv Ar outer s H vs Q E hr h => ?_)
  · obtain ⟨d, a, v, x, r, has, F, n, l, rfl, _⟩ := h
    rfl
  · obtain ⟨d, a, v, x, r, has, F, n, l, rfl, sF, D, W, ha, hv, k⟩ := h
    refine ⟨_, (pss_cons (ps_if (pt_cmpR op_ge (pe_callB call_len_seq (by rfl) T.z_len PySem.boot_len (pa_cons (pe_fld (pv 0) rfl) pa_nil)) (pe_gi T.g_MOST_OTHERS) (nomark _))
        (pss_one (ps_ret (pe_gi T.g_TOO_MANY)))
        pss_nil)
      (pss_cons (ps_expr (pe_bm PySem.F.plainAttrs_list PySem.F.slot_list_append PySem.F.type_list_append mt_append (pe_fld (pv 0) rfl) (pa_cons (pe_tup (pa_cons (pv 1) (pa_cons (pv 2) pa_nil))) pa_nil)))
      (pss_one (ps_ret (pe_gi T.g_RIGHT))))), ?_⟩
    have ol := D.otr.len
    have we := W.el
    refine ⟨_, rfl, d, _, _, _, _, rfl, D.ins, T.C_Date, T.n_Date_others, dFs_others, x.ot, _, rfl, .inl (SqL.of D.ot), _, _, rfl, rfl, _, rfl, ite2 (fun c => ?_) (fun c => ?_)⟩
    · have c1 := of_decide_eq_true c
      rw [List.length_map, ol] at c1
      have e : fOther r n l = (4, r) := if_pos (by omega)
      rw [e] at k
      exact k F H x (Grow.more (More.refl sF)) D
    · have c1 : ¬ (3 : Int) ≤ ((x.ops.map fun o => V.ref o.1).length : Int) := fun z => c (decide_eq_true z)
      rw [List.length_map, ol] at c1
      have e : fOther r n l = (0, { r with extra := r.extra ++ [(n, l)] }) := if_neg (by omega)
      rw [e] at k
      refine ⟨_, rfl, d, _, _, _, _, rfl, D.ins, T.C_Date, T.n_Date_others, dFs_others, .inl ⟨rfl, _, SqL.of D.ot⟩, _, rfl, _, rfl, (by show 2 ≤ sizeLine; decide), fun t nt => ?_⟩
      have M := More.freeze sF (same_upd nt) nt (upd_same (H := H) (a := t) (o := .tup [.ref a, .ref v]))
      refine ⟨x.ot, _, _, rfl, rfl, M.hh _ _ D.ot, ?_, ?_⟩
      · rw [List.length_map]
        exact sz (by omega)
      · have Z := DateAt.other M D upd_same (M.ff _ _ ha) (M.ff _ _ hv)
        exact k _ _ _ Z.2 Z.1
def spFault : Sp := fun vs H Q _ => ∃ i k : Nat, vs = [.int (i : Int), .int (k : Int)] ∧ Q (.int (-((100 + 10 * i + k : Nat) : Int))) H
theorem ok_told_fault (T : Txt K mg A) : FnOk P w K mg base CX0 1 A.f_told_fault A.d_told_fault ["line_number", "kind"] spFault := by
  refine T.F_told_fault.ok sc_told_fault (fun vs H Q E h => ?_) (fun cdv Ar outer s H vs Q E hr h => ?_)
  · obtain ⟨i, k, rfl, _⟩ := h
    rfl
  · obtain ⟨i, k, rfl, q⟩ := h
    refine ⟨_, (pss_one (ps_ret (pe_op op_sub (pe_op op_sub (pe_un un_neg pe_int) (pe_op op_mul pe_int (pv 0))) (pv 1)))), ?_⟩
    exact ⟨100, rfl, _, rfl, _, _, rfl, rfl, .inl ⟨by decide, by decide⟩, _, _, rfl, rfl, _, rfl, _, _, rfl, rfl, qi q (by omega)⟩
end
end Ct

set_option Elab.async false
set_option linter.all false
set_option maxRecDepth 100000
set_option maxHeartbeats 4000000
namespace Ct
open PySem PySem.Spec PyProof.Rows L2
/-! ### what is read, beside the specification -/
structure ROut (r : Cl09.Read) (t : List Nat) (rs : List (Cl09.Date × Bool)) : Prop where
  op : r.open_ = none
  tt : t = r.cal.title
  tl : t.length ≤ 40
  ers : rs = r.cal.dates.map fun d => (d, true)
  dl : rs.length ≤ 6
  wf : ∀ q ∈ rs, WF q.1
structure RIn (r : Cl09.Read) (d : Cl09.Date) (had : List Cl09.Bytes) (t : List Nat) (rp : List (Cl09.Date × Bool)) (has : Bool) : Prop where
  op : r.open_ = some (d, had)
  tt : t = r.cal.title
  tl : t.length ≤ 40
  erp : rp = r.cal.dates.map fun d => (d, true)
  dl : rp.length ≤ 5
  wf : ∀ q ∈ rp, WF q.1
  wd : WF d
  at_ : had.contains (Cl09.ascii "at") = has
  nm : had.contains (Cl09.ascii "name") = true ↔ d.name ≠ []
  lg : had.contains (Cl09.ascii "long") = true ↔ d.long ≠ 0
def RR (r : Cl09.Read) (t : List Nat) (rs : List (Cl09.Date × Bool)) (b : Bool) : Prop := (b = false ∧ ROut r t rs) ∨ (b = true ∧ ∃ d had rp has, rs = rp ++ [(d, has)] ∧ RIn r d had t rp has)
def Out (e : Except Nat Cl09.Read) (k : Nat) (t : List Nat) (rs : List (Cl09.Date × Bool)) (b : Bool) : Prop := match e with
  | .error j => k = j ∧ k ≠ 0
  | .ok r => k = 0 ∧ RR r t rs b
/-- a line outside of a date -/
def outS (r : Cl09.Read) (n v : Cl09.Bytes) : Except Nat Cl09.Read :=
  if n = Cl09.ascii "title" then (if r.cal.dates ≠ [] then .error 2 else match Cl09.untold v with
    | none => .error 3
    | some t => if t = [] ∨ Cl09.NAME < t.length then .error 3 else if r.cal.title ≠ [] then .error 4 else .ok { r with cal := { r.cal with title := t } })
  else if n = Cl09.ascii "begin" then (if v ≠ Cl09.ascii "date" then .error 3 else if Cl09.DATES ≤ r.cal.dates.length then .error 4 else .ok { r with open_ := some (Cl09.blank, []) })
  else .error 2
def onceS (r : Cl09.Read) (had : List Cl09.Bytes) (n : Cl09.Bytes) (d : Cl09.Date) : Except Nat Cl09.Read := if had.contains n = true then .error 4 else .ok { r with open_ := some (d, n :: had) }
def inName (r : Cl09.Read) (d : Cl09.Date) (had : List Cl09.Bytes) (v : Cl09.Bytes) : Except Nat Cl09.Read := match Cl09.untold v with
  | none => .error 3
  | some t => if t = [] ∨ Cl09.NAME < t.length then .error 3 else onceS r had (Cl09.ascii "name") { d with name := t }
def inAt (r : Cl09.Read) (d : Cl09.Date) (had : List Cl09.Bytes) (v : Cl09.Bytes) : Except Nat Cl09.Read := match Cl09.timeRead v with
  | none => .error 3
  | some t => onceS r had (Cl09.ascii "at") { d with day := t.1, minute := t.2 }
def inLong (r : Cl09.Read) (d : Cl09.Date) (had : List Cl09.Bytes) (v : Cl09.Bytes) : Except Nat Cl09.Read := match Cl09.number v with
  | none => .error 3
  | some z => if z = 0 then .error 3 else onceS r had (Cl09.ascii "long") { d with long := z }
def inRing (r : Cl09.Read) (d : Cl09.Date) (had : List Cl09.Bytes) (v : Cl09.Bytes) : Except Nat Cl09.Read := match Cl09.number v with
  | none => .error 3
  | some z => if d.rings.contains z = true ∨ Cl09.RINGS ≤ d.rings.length then .error 4 else .ok { r with open_ := some ({ d with rings := Cl09.insert z d.rings }, had) }
def inTag (r : Cl09.Read) (d : Cl09.Date) (had : List Cl09.Bytes) (v : Cl09.Bytes) : Except Nat Cl09.Read :=
  if (Cl09.words v).all Cl09.isTag = false then .error 3 else if Cl09.TAGS < d.tags.length + (Cl09.words v).length ∨ (d.tags ++ Cl09.words v).eraseDups.length ≠ d.tags.length + (Cl09.words v).length then .error 4 else .ok { r with open_ := some ({ d with tags := d.tags ++ Cl09.words v }, had) }
def inEnd (r : Cl09.Read) (d : Cl09.Date) (had : List Cl09.Bytes) (v : Cl09.Bytes) : Except Nat Cl09.Read :=
  if v ≠ Cl09.ascii "date" then .error 3 else if had.contains (Cl09.ascii "at") = false then .error 5 else .ok { r with cal := { r.cal with dates := r.cal.dates ++ [d] }, open_ := none }
def inOther (r : Cl09.Read) (d : Cl09.Date) (had : List Cl09.Bytes) (n v : Cl09.Bytes) : Except Nat Cl09.Read :=
  if Cl09.EXTRA ≤ d.extra.length then .error 4 else .ok { r with open_ := some ({ d with extra := d.extra ++ [(n, v)] }, had) }
def inS (r : Cl09.Read) (d : Cl09.Date) (had : List Cl09.Bytes) (n v : Cl09.Bytes) : Except Nat Cl09.Read :=
  if n = Cl09.ascii "name" then inName r d had v
  else if n = Cl09.ascii "at" then inAt r d had v
  else if n = Cl09.ascii "long" then inLong r d had v
  else if n = Cl09.ascii "ring" then inRing r d had v
  else if n = Cl09.ascii "tag" then inTag r d had v
  else if n = Cl09.ascii "end" then inEnd r d had v
  else if n.take 2 = Cl09.ascii "x-" ∧ 3 ≤ n.length then inOther r d had n v
  else if n = Cl09.ascii "begin" ∨ n = Cl09.ascii "title" then .error 2
  else .error 6
theorem line_none {r : Cl09.Read} {b : Cl09.Bytes} (h : Cl09.parted b = none) : Cl09.readLine r b = .error 1 := by
  unfold Cl09.readLine
  rw [h]
theorem line_out {r : Cl09.Read} {b n v : Cl09.Bytes} (h : Cl09.parted b = some (n, v)) (ho : r.open_ = none) : Cl09.readLine r b = outS r n v := by
  obtain ⟨cal, op⟩ := r
  have ho' : op = none := ho
  subst ho'
  unfold Cl09.readLine
  rw [h]
  rfl
theorem line_in {r : Cl09.Read} {b n v : Cl09.Bytes} {d : Cl09.Date} {had : List Cl09.Bytes} (h : Cl09.parted b = some (n, v)) (ho : r.open_ = some (d, had)) : Cl09.readLine r b = inS r d had n v := by
  obtain ⟨cal, op⟩ := r
  have ho' : op = some (d, had) := ho
  subst ho'
  unfold Cl09.readLine
  rw [h]
  unfold inS
  by_cases h1 : n = Cl09.ascii "name"
  · subst h1
    simp only [if_true]
    rfl
  by_cases h2 : n = Cl09.ascii "at"
  · subst h2
    simp only [if_neg h1, if_true]
    rfl
  by_cases h3 : n = Cl09.ascii "long"
  · subst h3
    simp only [if_neg h1, if_neg h2, if_true]
    rfl
  simp only [if_neg h1, if_neg h2, if_neg h3]
  rfl
/-! ### the values -/
theorem readN_len (l : List Nat) : (readN l).length ≤ 40 := by
  unfold readN
  split
  · simp
  · split
    · simp
    · omega
theorem name_cases (v : List Nat) : (readN v = [] ∧ ∀ (α : Type) (a : α) (g : List Nat → α), (match Cl09.untold v with | none => a | some t => if t = [] ∨ Cl09.NAME < t.length then a else g t) = a) ∨
    (readN v ≠ [] ∧ ∀ (α : Type) (a : α) (g : List Nat → α), (match Cl09.untold v with | none => a | some t => if t = [] ∨ Cl09.NAME < t.length then a else g t) = g (readN v)) := by
  unfold readN
  cases e : Cl09.untold v with
  | none => exact .inl ⟨rfl, fun _ _ _ => rfl⟩
  | some t =>
    by_cases h1 : t = []
    · subst h1
      exact .inl ⟨rfl, fun _ _ _ => if_pos (.inl rfl)⟩
    · by_cases h2 : 40 < t.length
      · exact .inl ⟨by simp [h2], fun _ _ _ => if_pos (.inr h2)⟩
      · refine .inr ⟨by simp [h2, h1], fun α a g => ?_⟩
        simp only [h2, if_false]
        rw [if_neg]
        rintro (z | z)
        · exact h1 z
        · exact h2 z
theorem number_cases (v : List Nat) : (numberI v = -1 ∧ Cl09.number v = none) ∨ ∃ n : Nat, n ≤ 9999 ∧ numberI v = (n : Int) ∧ Cl09.number v = some n := by
  unfold numberI
  cases e : Cl09.number v with
  | none => exact .inl ⟨rfl, rfl⟩
  | some n =>
    refine .inr ⟨n, ?_, rfl, rfl⟩
    unfold Cl09.number at e
    split at e
    · cases e
    · rename_i h
      simp only [not_or] at h
      have hd : v.all Cl09.isDigit = true := by simpa using h.2.2.1
      have b := numI_bound v hd
      rw [numI_nat v hd] at b
      have en : v.foldl (fun (n c : Nat) => 10 * n + (c - 48)) 0 = n := Option.some.inj e
      rw [en] at b
      have p : (10 : Int) ^ v.length ≤ 10 ^ 4 := by
        have := Nat.pow_le_pow_right (n := 10) (by decide) (show v.length ≤ 4 by omega)
        exact_mod_cast this
      omega
theorem time_cases (v : List Nat) : (timeI v < 0 ∧ Cl09.timeRead v = none) ∨ ∃ d m : Nat, d < 36525 ∧ m < 1440 ∧ timeI v = (d : Int) * 1440 + (m : Int) ∧ Cl09.timeRead v = some (d, m) := by
  unfold timeI
  cases hf : timeForm v with
  | false => rw [read_no hf]; exact .inl ⟨by decide, rfl⟩
  | true =>
    have rd := (read_yes hf).rd
    rw [rd]
    by_cases h : natN (v.take 4) < 2000 ∨ (Cl01.isDate (natN (v.take 4) - 2000) (natN ((v.drop 5).take 2)) (natN ((v.drop 8).take 2)) = false ∨ (23 < natN ((v.drop 11).take 2) ∨ 59 < natN ((v.drop 14).take 2)))
    · rw [if_pos h]
      exact .inl ⟨by decide, rfl⟩
    · rw [if_neg h]
      simp only [not_or] at h
      refine .inr ⟨_, _, ?_, ?_, rfl, rfl⟩
      · refine dayOf_lt (y := natN (v.take 4)) ?_
        unfold dayOk
        rw [decide_eq_true (by omega), Bool.true_and]
        simpa using h.2.1
      · omega
theorem words_split : ∀ (v : List Nat), Cl09.words v = split 44 v := by
  have go : ∀ (v : List Nat) (s : List (List Nat) × List Nat), (v.foldl (splS 44) s).1 ++ [(v.foldl (splS 44) s).2] = s.1 ++ (match Cl09.words v with
      | [] => []
      | w :: r => (s.2 ++ w) :: r) := by
    intro v
    induction v with
    | nil => intro s; simp [Cl09.words]
    | cons c r ih =>
      intro s
      rw [List.foldl_cons, ih]
      have ew : Cl09.words (c :: r) = if c = 44 then [] :: Cl09.words r else match Cl09.words r with
          | [] => [[c]]
          | w :: r => (c :: w) :: r := rfl
      rw [ew]
      unfold splS
      by_cases h : c = 44
      · rw [if_pos h, if_pos h]
        cases e : Cl09.words r with
        | nil =>
          exfalso
          have : Cl09.words r ≠ [] := by
            cases r with
            | nil => simp [Cl09.words]
            | cons a b =>
              show (if a = 44 then [] :: Cl09.words b else match Cl09.words b with
                | [] => [[a]]
                | w :: r => (a :: w) :: r) ≠ []
              split
              · simp
              · split <;> simp
          exact this e
        | cons w q => simp
      · rw [if_neg h, if_neg h]
        cases e : Cl09.words r with
        | nil =>
          exfalso
          have : Cl09.words r ≠ [] := by
            cases r with
            | nil => simp [Cl09.words]
            | cons a b =>
              show (if a = 44 then [] :: Cl09.words b else match Cl09.words b with
                | [] => [[a]]
                | w :: r => (a :: w) :: r) ≠ []
              split
              · simp
              · split <;> simp
          exact this e
        | cons w q => simp
  intro v
  have := go v ([], [])
  unfold split spl
  rw [this]
  cases e : Cl09.words v with
  | nil =>
    exfalso
    cases v with
    | nil => simp [Cl09.words] at e
    | cons a b =>
      have e' : (if a = 44 then [] :: Cl09.words b else match Cl09.words b with
        | [] => [[a]]
        | w :: r => (a :: w) :: r) = [] := e
      split at e'
      · cases e'
      · split at e' <;> cases e'
  | cons w q => simp
theorem dedup_len : ∀ (n : Nat) (l : List (List Nat)), l.length ≤ n → (l.eraseDups.length ≤ l.length ∧ (l.eraseDups.length = l.length ↔ l.Nodup))
  | _, [], _ => by simp
  | 0, _ :: _, h => by simp at h
  | n + 1, a :: l, h => by
    have hf : (l.filter fun b => !b == a).length ≤ l.length := List.length_filter_le _ _
    have ih := dedup_len n (l.filter fun b => !b == a) (by simp at h; omega)
    rw [List.eraseDups_cons, List.length_cons, List.length_cons, List.nodup_cons]
    refine ⟨by omega, fun z => ?_, fun z => ?_⟩
    · have hl : (l.filter fun b => !b == a).length = l.length := by omega
      have hall := List.length_filter_eq_length_iff.mp hl
      have hna : a ∉ l := fun m => by have := hall a m; simp at this
      have ef : l.filter (fun b => !b == a) = l := List.filter_eq_self.mpr hall
      refine ⟨hna, ?_⟩
      have := ih.2.mp (by omega)
      rw [ef] at this
      exact this
    · have ef : l.filter (fun b => !b == a) = l := List.filter_eq_self.mpr fun b hb => by
        have : b ≠ a := fun e => z.1 (e ▸ hb)
        simp [this]
      rw [ef] at ih ⊢
      have := ih.2.mpr z.2
      omega
theorem tags_cases (v : List Nat) : (tagsP v = [] ∧ (Cl09.words v).all Cl09.isTag = false) ∨ (tagsP v ≠ [] ∧ (Cl09.words v).all Cl09.isTag = true ∧ Cl09.words v = tagsP v ∧ ∀ t ∈ tagsP v, t.length ≤ 8) := by
  rw [words_split]
  unfold tagsP
  cases h : (split 44 v).all Cl09.isTag with
  | false => exact .inl ⟨by simp, rfl⟩
  | true =>
    refine .inr ⟨?_, rfl, by simp, ?_⟩
    · rw [if_pos rfl]
      unfold split
      simp
    · intro t ht
      rw [if_pos rfl] at ht
      have := List.all_eq_true.mp h t ht
      simp [Cl09.isTag] at this
      omega
end Ct

set_option Elab.async false
set_option linter.all false
set_option maxRecDepth 100000
set_option maxHeartbeats 4000000
namespace Ct
open PySem PySem.Spec PyProof.Rows L2
theorem had_ne {a b : Cl09.Bytes} {had : List Cl09.Bytes} (h : (b == a) = false) : (a :: had).contains b = had.contains b := by rw [List.contains_cons, h, Bool.false_or]
theorem had_eq {a : Cl09.Bytes} {had : List Cl09.Bytes} : (a :: had).contains a = true := by rw [List.contains_cons, beq_self_eq_true, Bool.true_or]
section
variable {r : Cl09.Read} {d : Cl09.Date} {had : List Cl09.Bytes} {t : List Nat} {rp : List (Cl09.Date × Bool)} {has : Bool}
theorem step_name (h : RIn r d had t rp has) (v : List Nat) : Out (inName r d had v) (fName d has v).1 t (rp ++ [(fName d has v).2]) true := by
  unfold inName
  rcases name_cases v with ⟨e, f⟩ | ⟨e, f⟩
  · rw [f]
    have q : fName d has v = (3, d, has) := if_pos e
    rw [q]
    exact ⟨rfl, Nat.succ_ne_zero _⟩
  · rw [f]
    unfold onceS
    by_cases z : d.name = []
    · have q : fName d has v = (0, { d with name := readN v }, has) := (if_neg e).trans (if_neg fun w => w z)
      rw [q, if_neg fun w => h.nm.mp w z]
      refine ⟨rfl, .inr ⟨rfl, _, _, rp, has, rfl, ⟨rfl, h.tt, h.tl, h.erp, h.dl, h.wf, ?_, ?_, ?_, ?_⟩⟩⟩
      · exact { h.wd with nm := readN_len v }
      · rw [had_ne (by decide +kernel)]
        exact h.at_
      · rw [had_eq]
        exact ⟨fun _ => e, fun _ => rfl⟩
      · rw [had_ne (by decide +kernel)]
        exact h.lg
    · have q : fName d has v = (4, d, has) := (if_neg e).trans (if_pos z)
      rw [q, if_pos (h.nm.mpr z)]
      exact ⟨rfl, Nat.succ_ne_zero _⟩
theorem step_at (h : RIn r d had t rp has) (v : List Nat) : Out (inAt r d had v) (fAt d has v).1 t (rp ++ [(fAt d has v).2]) true := by
  unfold inAt
  rcases time_cases v with ⟨e, f⟩ | ⟨x, m, hx, hm, e, f⟩
  · rw [f]
    have q : fAt d has v = (3, d, has) := if_pos e
    rw [q]
    exact ⟨rfl, Nat.succ_ne_zero _⟩
  · rw [f]
    have e0 : ¬ timeI v < 0 := by omega
    have e1 : (timeI v / 1440).toNat = x := by omega
    have e2 : (timeI v % 1440).toNat = m := by omega
    show Out (onceS r had (Cl09.ascii "at") { d with day := x, minute := m }) _ _ _ _
    unfold onceS
    cases hc : has with
    | true =>
      have q : fAt d true v = (4, d, true) := (if_neg e0).trans (if_pos rfl)
      rw [q, if_pos (h.at_.trans hc)]
      exact ⟨rfl, Nat.succ_ne_zero _⟩
    | false =>
      have q : fAt d false v = (0, { d with day := x, minute := m }, true) := by
        unfold fAt
        rw [if_neg e0, if_neg Bool.false_ne_true, e1, e2]
      rw [q, if_neg (by rw [h.at_, hc]; decide)]
      refine ⟨rfl, .inr ⟨rfl, _, _, rp, true, rfl, ⟨rfl, h.tt, h.tl, h.erp, h.dl, h.wf, ?_, had_eq, ?_, ?_⟩⟩⟩
      · exact { h.wd with dy := hx, mi := hm }
      · rw [had_ne (by decide +kernel)]
        exact h.nm
      · rw [had_ne (by decide +kernel)]
        exact h.lg
theorem step_long (h : RIn r d had t rp has) (v : List Nat) : Out (inLong r d had v) (fLong d has v).1 t (rp ++ [(fLong d has v).2]) true := by
  unfold inLong
  rcases number_cases v with ⟨e, f⟩ | ⟨n, hn, e, f⟩
  · rw [f]
    have q : fLong d has v = (3, d, has) := if_pos (by omega)
    rw [q]
    exact ⟨rfl, Nat.succ_ne_zero _⟩
  · rw [f]
    show Out (if n = 0 then .error 3 else onceS r had (Cl09.ascii "long") { d with long := n }) _ _ _ _
    by_cases z : n = 0
    · have q : fLong d has v = (3, d, has) := if_pos (by omega)
      rw [q, if_pos z]
      exact ⟨rfl, Nat.succ_ne_zero _⟩
    · rw [if_neg z]
      have e0 : ¬ numberI v < 1 := by omega
      have e1 : (numberI v).toNat = n := by omega
      unfold onceS
      by_cases y : d.long = 0
      · have q : fLong d has v = (0, { d with long := n }, has) := by
          unfold fLong
          rw [if_neg e0, if_neg (by omega), e1]
        rw [q, if_neg fun w => h.lg.mp w y]
        refine ⟨rfl, .inr ⟨rfl, _, _, rp, has, rfl, ⟨rfl, h.tt, h.tl, h.erp, h.dl, h.wf, ?_, ?_, ?_, ?_⟩⟩⟩
        · exact { h.wd with lg := hn }
        · rw [had_ne (by decide +kernel)]
          exact h.at_
        · rw [had_ne (by decide +kernel)]
          exact h.nm
        · rw [had_eq]
          exact ⟨fun _ => z, fun _ => rfl⟩
      · have q : fLong d has v = (4, d, has) := (if_neg e0).trans (if_pos (by omega))
        rw [q, if_pos (h.lg.mpr y)]
        exact ⟨rfl, Nat.succ_ne_zero _⟩
theorem step_ring (h : RIn r d had t rp has) (v : List Nat) : Out (inRing r d had v) (fRing d has v).1 t (rp ++ [(fRing d has v).2]) true := by
  unfold inRing
  rcases number_cases v with ⟨e, f⟩ | ⟨n, hn, e, f⟩
  · rw [f]
    have q : fRing d has v = (3, d, has) := if_pos (by omega)
    rw [q]
    exact ⟨rfl, Nat.succ_ne_zero _⟩
  · rw [f]
    have e0 : ¬ numberI v < 0 := by omega
    have e1 : (numberI v).toNat = n := by omega
    show Out (if d.rings.contains n = true ∨ Cl09.RINGS ≤ d.rings.length then .error 4 else .ok { r with open_ := some ({ d with rings := Cl09.insert n d.rings }, had) }) _ _ _ _
    by_cases y : n ∈ d.rings ∨ 3 ≤ d.rings.length
    · have q : fRing d has v = (4, d, has) := by
        unfold fRing
        rw [if_neg e0, e1, if_pos y]
      rw [q, if_pos (show d.rings.contains n = true ∨ Cl09.RINGS ≤ d.rings.length from y.imp (fun y => by simpa using y) id)]
      exact ⟨rfl, Nat.succ_ne_zero _⟩
    · have q : fRing d has v = (0, { d with rings := Cl09.insert n d.rings }, has) := by
        unfold fRing
        rw [if_neg e0, e1, if_neg y]
      simp only [not_or] at y
      rw [q, if_neg (fun w : d.rings.contains n = true ∨ Cl09.RINGS ≤ d.rings.length => w.elim (fun w => y.1 (by simpa using w)) y.2)]
      refine ⟨rfl, .inr ⟨rfl, _, _, rp, has, rfl, ⟨rfl, h.tt, h.tl, h.erp, h.dl, h.wf, ?_, h.at_, h.nm, h.lg⟩⟩⟩
      have pl := (ins_perm n d.rings).length_eq
      rw [List.length_cons] at pl
      refine { h.wd with rl := ?_, rs := ins_sorted h.wd.rs y.1, rb := fun a ha => ?_ }
      · show (Cl09.insert n d.rings).length ≤ 3
        omega
      · rcases ins_mem.mp ha with rfl | ha
        · exact hn
        · exact h.wd.rb a ha
theorem step_tag (h : RIn r d had t rp has) (v : List Nat) : Out (inTag r d had v) (fTag d has v).1 t (rp ++ [(fTag d has v).2]) true := by
  unfold inTag
  rcases tags_cases v with ⟨e, f⟩ | ⟨e, f, g, len⟩
  · rw [if_pos f]
    have q : fTag d has v = (3, d, has) := if_pos e
    rw [q]
    exact ⟨rfl, Nat.succ_ne_zero _⟩
  · rw [if_neg (by rw [f]; decide), g]
    have dl := (dedup_len _ (d.tags ++ tagsP v) (Nat.le_refl _)).2
    rw [List.length_append] at dl
    by_cases y : 5 < (d.tags ++ tagsP v).length ∨ ¬ (d.tags ++ tagsP v).Nodup
    · have q : fTag d has v = (4, d, has) := (if_neg e).trans (if_pos y)
      rw [q, if_pos]
      · exact ⟨rfl, Nat.succ_ne_zero _⟩
      · rcases y with y | y
        · rw [List.length_append] at y
          exact .inl y
        · exact .inr fun w => y (dl.mp w)
    · have q : fTag d has v = (0, { d with tags := d.tags ++ tagsP v }, has) := (if_neg e).trans (if_neg y)
      have y1 : ¬ 5 < (d.tags ++ tagsP v).length := fun w => y (.inl w)
      have y2 : (d.tags ++ tagsP v).Nodup := Classical.byContradiction fun w => y (.inr w)
      rw [q, if_neg]
      · refine ⟨rfl, .inr ⟨rfl, _, _, rp, has, rfl, ⟨rfl, h.tt, h.tl, h.erp, h.dl, h.wf, ?_, h.at_, h.nm, h.lg⟩⟩⟩
        refine { h.wd with tl := ?_, tb := fun a ha => ?_, tn := y2 }
        · show (d.tags ++ tagsP v).length ≤ 5
          omega
        · rcases List.mem_append.mp ha with ha | ha
          · exact h.wd.tb a ha
          · exact len a ha
      · rintro (w | w)
        · rw [List.length_append] at y1
          exact y1 w
        · exact w (dl.mpr y2)
theorem step_other (h : RIn r d had t rp has) (n v : List Nat) (hn : n.length ≤ 16) (hv : v.length ≤ 700) : Out (inOther r d had n v) (fOther d n v).1 t (rp ++ [((fOther d n v).2, has)]) true := by
  unfold inOther
  by_cases y : 3 ≤ d.extra.length
  · have q : fOther d n v = (4, d) := if_pos y
    rw [q, if_pos (show Cl09.EXTRA ≤ d.extra.length from y)]
    exact ⟨rfl, Nat.succ_ne_zero _⟩
  · have q : fOther d n v = (0, { d with extra := d.extra ++ [(n, v)] }) := if_neg y
    rw [q, if_neg (show ¬ Cl09.EXTRA ≤ d.extra.length from y)]
    refine ⟨rfl, .inr ⟨rfl, _, _, rp, has, rfl, ⟨rfl, h.tt, h.tl, h.erp, h.dl, h.wf, ?_, h.at_, h.nm, h.lg⟩⟩⟩
    refine { h.wd with el := ?_, eb := fun a ha => ?_ }
    · show (d.extra ++ [(n, v)]).length ≤ 3
      rw [List.length_append, List.length_singleton]
      omega
    · rcases List.mem_append.mp ha with ha | ha
      · exact h.wd.eb a ha
      · have : a = (n, v) := by simpa using ha
        rw [this]
        exact ⟨hn, hv⟩
/-- end: the kind that the program answers -/
def fEnd (has : Bool) (v : List Nat) : Nat := if v ≠ Cl09.ascii "date" then 3 else if has = false then 5 else 0
theorem step_end (h : RIn r d had t rp has) (v : List Nat) : Out (inEnd r d had v) (fEnd has v) t (rp ++ [(d, has)]) (decide (fEnd has v ≠ 0)) := by
  unfold inEnd
  rw [h.at_]
  by_cases y : v = Cl09.ascii "date"
  · cases hc : has with
    | false =>
      have q : fEnd false v = 5 := (if_neg fun w => w y).trans (if_pos rfl)
      rw [q, if_neg (fun w : v ≠ Cl09.ascii "date" => w y), if_pos rfl]
      exact ⟨rfl, Nat.succ_ne_zero _⟩
    | true =>
      have q : fEnd true v = 0 := (if_neg fun w => w y).trans (if_neg (by decide))
      rw [q, if_neg (fun w : v ≠ Cl09.ascii "date" => w y), if_neg (by decide)]
      refine ⟨rfl, .inl ⟨rfl, ⟨rfl, h.tt, h.tl, ?_, ?_, ?_⟩⟩⟩
      · rw [h.erp]
        simp
      · rw [List.length_append, List.length_singleton]
        have := h.dl
        omega
      · intro q hq
        rcases List.mem_append.mp hq with hq | hq
        · exact h.wf q hq
        · have : q = (d, true) := by simpa using hq
          rw [this]
          exact h.wd
  · have q : fEnd has v = 3 := if_pos y
    rw [q, if_pos y]
    exact ⟨rfl, Nat.succ_ne_zero _⟩
end
section
variable {r : Cl09.Read} {t : List Nat} {rs : List (Cl09.Date × Bool)}
def fBegin (rs : List (Cl09.Date × Bool)) (v : List Nat) : Nat := if v ≠ Cl09.ascii "date" then 3 else if 6 ≤ rs.length then 4 else 0
theorem step_begin (h : ROut r t rs) (v : List Nat) : (fBegin rs v ≠ 0 ∧ outS r (Cl09.ascii "begin") v = .error (fBegin rs v)) ∨ (fBegin rs v = 0 ∧ Out (outS r (Cl09.ascii "begin") v) 0 t (rs ++ [(Cl09.blank, false)]) true) := by
  have nt : ¬ Cl09.ascii "begin" = Cl09.ascii "title" := by decide +kernel
  have dl : r.cal.dates.length = rs.length := by rw [h.ers]; simp
  unfold outS
  rw [if_neg nt, if_pos rfl, dl]
  by_cases y : v = Cl09.ascii "date"
  · by_cases z : 6 ≤ rs.length
    · have q : fBegin rs v = 4 := (if_neg fun w => w y).trans (if_pos z)
      rw [q, if_neg (fun w : v ≠ Cl09.ascii "date" => w y), if_pos (show Cl09.DATES ≤ rs.length from z)]
      exact .inl ⟨by decide, rfl⟩
    · have q : fBegin rs v = 0 := (if_neg fun w => w y).trans (if_neg z)
      rw [q, if_neg (fun w : v ≠ Cl09.ascii "date" => w y), if_neg (show ¬ Cl09.DATES ≤ rs.length from z)]
      refine .inr ⟨rfl, rfl, .inr ⟨rfl, Cl09.blank, [], rs, false, rfl, ⟨rfl, h.tt, h.tl, h.ers, by omega, h.wf, WF.blank, rfl, ?_, ?_⟩⟩⟩
      · simp [Cl09.blank]
      · simp [Cl09.blank]
  · have q : fBegin rs v = 3 := if_pos y
    rw [q, if_pos y]
    exact .inl ⟨by decide, rfl⟩
def fTitle (t : List Nat) (rs : List (Cl09.Date × Bool)) (l : List Nat) : Nat × List Nat := if rs ≠ [] then (2, t) else if readN l = [] then (3, t) else if t ≠ [] then (4, t) else (0, readN l)
theorem step_title (h : ROut r t rs) (v : List Nat) : Out (outS r (Cl09.ascii "title") v) (fTitle t rs v).1 (fTitle t rs v).2 rs false := by
  unfold outS
  rw [if_pos rfl]
  have dn : r.cal.dates = [] ↔ rs = [] := by rw [h.ers]; simp
  by_cases y : rs = []
  · rw [if_neg (fun w : r.cal.dates ≠ [] => w (dn.mpr y))]
    rcases name_cases v with ⟨e, f⟩ | ⟨e, f⟩
    · have q : fTitle t rs v = (3, t) := (if_neg fun w => w y).trans (if_pos e)
      rw [f, q]
      exact ⟨rfl, Nat.succ_ne_zero _⟩
    · rw [f]
      by_cases z : t = []
      · have q : fTitle t rs v = (0, readN v) := (if_neg fun w => w y).trans ((if_neg e).trans (if_neg fun w => w z))
        rw [q, if_neg (fun w : r.cal.title ≠ [] => w (h.tt.symm.trans z))]
        exact ⟨rfl, .inl ⟨rfl, ⟨h.op, rfl, readN_len v, h.ers, h.dl, h.wf⟩⟩⟩
      · have q : fTitle t rs v = (4, t) := (if_neg fun w => w y).trans ((if_neg e).trans (if_pos z))
        rw [q, if_pos (fun w => z (h.tt.trans w))]
        exact ⟨rfl, Nat.succ_ne_zero _⟩
  · have q : fTitle t rs v = (2, t) := if_pos y
    rw [q, if_pos (fun w => y (dn.mp w))]
    exact ⟨rfl, Nat.succ_ne_zero _⟩
end
end Ct

set_option Elab.async false
set_option linter.all false
set_option maxRecDepth 100000
set_option maxHeartbeats 4000000
namespace Ct
open PySem PySem.Spec PyProof.Rows L2
/-! ### a reading in the heap -/
theorem mem_one {m p : Addr} (h : m ∈ [p]) : m = p := by simpa using h
def rFs (a b c : V) : List (Str × V) := [("calendar", a), ("within_date", b), ("fault", c)]
section
variable {a b c v : V}
theorem rFs_calendar : (rFs a b c).lookup ("calendar" : Str) = some a := lk_here
theorem rFs_within : (rFs a b c).lookup ("within_date" : Str) = some b := (lk_past (by decide +kernel)).trans lk_here
theorem rFs_fault : (rFs a b c).lookup ("fault" : Str) = some c := (lk_past (by decide +kernel)).trans ((lk_past (by decide +kernel)).trans lk_here)
theorem put_within : putF "within_date" v (rFs a b c) = rFs a v c := (put_past (by decide +kernel)).trans (congrArg _ put_here)
theorem put_fault : putF "fault" v (rFs a b c) = rFs a b v := (put_past (by decide +kernel)).trans (congrArg _ ((put_past (by decide +kernel)).trans (congrArg _ put_here)))
theorem new_reading : putF "fault" c (putF "within_date" b (putF "calendar" a [])) = rFs a b c := by
  simp only [putF, rFs]
  rfl
end
structure RA where
  dx : Addr
  c : Addr
  y : CA
structure Cs where
  C : Addr
  D : Addr
  R : Addr
structure ReadAt (N : Cs) (F H : Hp) (p : Addr) (z : RA) (t : List Nat) (rs : List (Cl09.Date × Bool)) (b : Bool) (f : Int) : Prop where
  ins : H p = some (.ins N.R z.dx (rFs (.ref z.c) (.bl b) (.int f)))
  cal : CalAt N.C N.D F H z.c z.y t rs
  out : p ∉ mutsC z.c z.y
  fp : F p = none
def mutsR (p : Addr) (z : RA) : List Addr := p :: mutsC z.c z.y
section
variable {N : Cs} {F H F' H' : Hp} {p : Addr} {z z' : RA} {t t' : List Nat} {rs rs' : List (Cl09.Date × Bool)} {b b' : Bool} {f f' : Int}
theorem ReadAt.more (R : ReadAt N F H p z t rs b f) (M : More F H F' H') : ReadAt N F' H' p z t rs b f :=
  ⟨M.hh _ _ R.ins, R.cal.more M, R.out, by rw [M.fn p (by rw [R.ins]; simp)]; exact R.fp⟩
/-- its calendar written -/
theorem ReadAt.cal' {y' : CA} (R : ReadAt N F H p z t rs b f) (g : Grow (mutsC z.c z.y) (mutsC z.c y') F H F' H') (K : CalAt N.C N.D F' H' z.c y' t' rs') :
    ReadAt N F' H' p { z with y := y' } t' rs' b f ∧ Grow (mutsR p z) (mutsR p { z with y := y' }) F H F' H' := by
  have tp : H p ≠ none := by rw [R.ins]; simp
  have o2 : p ∉ mutsC z.c y' := fun m => by
    rcases g.mm p m with h | h
    · exact R.out h
    · exact tp h
  refine ⟨⟨g.hh _ _ R.ins R.out, K, o2, by rw [g.fn p tp]; exact R.fp⟩, fun c o e hc => g.hh c o e fun m => hc (List.mem_cons_of_mem _ m), g.ff, g.fn, g.sm, fun m hm => ?_, g.tr⟩
  rcases List.mem_cons.mp hm with rfl | hm
  · exact .inl (List.mem_cons_self ..)
  · rcases g.mm m hm with h | h
    · exact .inl (List.mem_cons_of_mem _ h)
    · exact .inr h
/-- its own fields written -/
theorem ReadAt.own (R : ReadAt N F H p z t rs b f) : ReadAt N F (upd H p (.ins N.R z.dx (rFs (.ref z.c) (.bl b') (.int f')))) p z t rs b' f' ∧ Grow (mutsR p z) (mutsR p z) F H F (upd H p (.ins N.R z.dx (rFs (.ref z.c) (.bl b') (.int f')))) := by
  have g : Grow [p] [p] F H F (upd H p (.ins N.R z.dx (rFs (.ref z.c) (.bl b') (.int f')))) := Grow.put R.cal.sm (by simp) R.fp
  refine ⟨⟨upd_same, R.cal.keep g fun m hm e => R.out (mem_one e ▸ hm), R.out, R.fp⟩, Grow.put R.cal.sm (List.mem_cons_self ..) R.fp⟩
/-- one of its dates written -/
theorem ReadAt.date {pre post : List (Addr × DA)} {d : Addr} {x x' : DA} {rp rq : List (Cl09.Date × Bool)} {q q' : Cl09.Date × Bool} (R : ReadAt N F H p z t rs b f) (hd : z.y.das = pre ++ (d, x) :: post) (hr : rs = rp ++ q :: rq) (hl : rp.length = pre.length)
    (g : Grow (muts d x) (muts d x') F H F' H') (D : DateAt N.D F' H' d x' q'.1 q'.2) :
    ReadAt N F' H' p { z with y := { z.y with das := pre ++ (d, x') :: post } } t (rp ++ q' :: rq) b f ∧ Grow (mutsR p z) (mutsR p { z with y := { z.y with das := pre ++ (d, x') :: post } }) F H F' H' := by
  have K := R.cal.set hd hr hl g D
  refine ReadAt.cal' R ⟨fun c o e hc => g.hh c o e fun m => hc ?_, g.ff, g.fn, g.sm, fun m hm => ?_, g.tr⟩ K
  · unfold mutsC
    rw [hd, mutsL_app, mutsL_cons]
    simp [m]
  · unfold mutsC at hm ⊢
    rw [hd, mutsL_app, mutsL_cons]
    have hm2 : m ∈ z.c :: z.y.ds :: mutsL (pre ++ (d, x') :: post) := hm
    rw [mutsL_app, mutsL_cons] at hm2
    have h : m = z.c ∨ m = z.y.ds ∨ m ∈ mutsL pre ∨ m ∈ muts d x' ∨ m ∈ mutsL post := by simpa using hm2
    rcases h with h | h | h | h | h
    · exact .inl (by simp [h])
    · exact .inl (by simp [h])
    · exact .inl (by simp [h])
    · rcases g.mm m h with h | h
      · exact .inl (by simp [h])
      · exact .inr h
    · exact .inl (by simp [h])
/-- one date more, at the end -/
theorem CalAt.push {C CD : Addr} {c : Addr} {y : CA} {F1 H1 : Hp} {d : Addr} {x : DA} {r : Cl09.Date} {has : Bool} (h : CalAt C CD F H c y t rs) (M : More F H F1 H1) (D : DateAt CD F1 H1 d x r has) (fresh : ∀ m ∈ muts d x, H m = none) :
    CalAt C CD F1 (upd H1 y.ds (.lst ((y.das.map fun p => V.ref p.1) ++ [.ref d]))) c { y with das := y.das ++ [(d, x)] } t (rs ++ [(r, has)]) ∧
      Grow (mutsC c y) (mutsC c { y with das := y.das ++ [(d, x)] }) F H F1 (upd H1 y.ds (.lst ((y.das.map fun p => V.ref p.1) ++ [.ref d]))) := by
  have h1 := h.more M
  have nd := h.nd
  unfold mutsC at nd
  have n1 := List.nodup_cons.mp nd
  have n2 := List.nodup_cons.mp n1.2
  have trk := h.trk
  have g : Grow [y.ds] [y.ds] F1 H1 F1 (upd H1 y.ds (.lst ((y.das.map fun p => V.ref p.1) ++ [.ref d]))) := Grow.put M.sm (by simp) h1.fd
  have apart : ∀ m ∈ muts d x, m ∉ mutsC c y := fun m hm z => trk m z (fresh m hm)
  have em : mutsL (y.das ++ [(d, x)]) = mutsL y.das ++ muts d x := by rw [mutsL_app, mutsL_cons]; simp [mutsL]
  refine ⟨⟨?_, h1.tt, ?_, ?_, ?_, h1.fc, h1.fd, g.sm⟩, ?_, M.ff, M.fn, g.sm, ?_, fun b hb => upd_tr (same_tr M.hh hb)⟩
  · rw [upd_ne fun e => n1.1 (by rw [e]; exact List.mem_cons_self ..)]
    exact h1.ins
  · show (upd H1 y.ds _) y.ds = _
    rw [upd_same]
    simp
  · refine DatesAt.app (h1.dates.keep g fun m hm e => n2.1 (mem_one e ▸ hm)) ⟨?_, trivial⟩
    have := DatesAt.keep (C := CD) g (as := [(d, x)]) (rs := [(r, has)]) ⟨D, trivial⟩ (fun m hm e => by
      have e' : m = y.ds := by simpa using e
      have hm' : m ∈ muts d x := by simpa [mutsL] using hm
      exact apart m hm' (by rw [e']; exact List.mem_cons_of_mem _ (List.mem_cons_self ..)))
    exact this.1
  · show (c :: y.ds :: mutsL (y.das ++ [(d, x)])).Nodup
    rw [em]
    refine List.nodup_cons.mpr ⟨fun z => ?_, List.nodup_cons.mpr ⟨fun z => ?_, List.nodup_append.mpr ⟨n2.2, D.nd, fun a ha b hb e => ?_⟩⟩⟩
    · have z' : c = y.ds ∨ c ∈ mutsL y.das ∨ c ∈ muts d x := by simpa using z
      rcases z' with z | z | z
      · exact n1.1 (by simp [z])
      · exact n1.1 (by simp [z])
      · exact apart c z (List.mem_cons_self ..)
    · rcases List.mem_append.mp z with z | z
      · exact n2.1 z
      · exact apart y.ds z (List.mem_cons_of_mem _ (List.mem_cons_self ..))
    · subst e
      exact apart a hb (List.mem_cons_of_mem _ (List.mem_cons_of_mem _ ha))
  · intro a o e ha
    rw [upd_ne fun z => ha (by rw [z]; exact List.mem_cons_of_mem _ (List.mem_cons_self ..))]
    exact M.hh _ _ e
  · intro m hm
    have hm2 : m ∈ c :: y.ds :: mutsL (y.das ++ [(d, x)]) := hm
    rw [em] at hm2
    have h : m = c ∨ m = y.ds ∨ m ∈ mutsL y.das ∨ m ∈ muts d x := by simpa using hm2
    rcases h with h | h | h | h
    · exact .inl (by simp [mutsC, h])
    · exact .inl (by simp [mutsC, h])
    · exact .inl (by simp [mutsC, h])
    · exact .inr (fresh m h)
/-- its name written -/
theorem CalAt.title {C CD : Addr} {c p : Addr} {y : CA} {F1 H1 : Hp} (h : CalAt C CD F H c y t rs) (M : More F H F1 H1) (hp : F1 p = some (.lst (nv t'))) :
    CalAt C CD F1 (upd H1 c (.ins C y.dx (cFs (.ref p) (.ref y.ds)))) c { y with tt := p } t' rs ∧ Grow (mutsC c y) (mutsC c { y with tt := p }) F H F1 (upd H1 c (.ins C y.dx (cFs (.ref p) (.ref y.ds)))) := by
  have h1 := h.more M
  have nd := h.nd
  unfold mutsC at nd
  have n1 := List.nodup_cons.mp nd
  have g : Grow [c] [c] F1 H1 F1 (upd H1 c (.ins C y.dx (cFs (.ref p) (.ref y.ds)))) := Grow.put M.sm (by simp) h1.fc
  refine ⟨⟨upd_same, hp, ?_, h1.dates.keep g fun m hm e => n1.1 (mem_one e ▸ List.mem_cons_of_mem _ hm), h.nd, h1.fc, h1.fd, g.sm⟩, ?_, M.ff, M.fn, g.sm, fun m hm => .inl hm, fun b hb => upd_tr (same_tr M.hh hb)⟩
  · show (upd H1 c _) y.ds = _
    rw [upd_ne fun e => n1.1 (by rw [e]; exact List.mem_cons_self ..)]
    exact h1.ds
  · intro a o e ha
    rw [upd_ne fun z => ha (by rw [z]; exact List.mem_cons_self ..)]
    exact M.hh _ _ e
end
section
variable {P : Program} {w : World} {K : PySem.W.Frag} {mg : Str → Option Value} {base : Heap} {A : Ad}
def csOf (A : Ad) : Cs := ⟨A.c_Calendar, A.c_Date, A.c_Reading⟩
def spReadInit (A : Ad) : Sp := fun vs H Q _ => ∃ (p dx : Addr) (F : Hp), vs = [.ref p] ∧ H p = some (.ins A.c_Reading dx []) ∧ Same F H ∧ F p = none ∧
  ∀ F' H' z, ReadAt (csOf A) F' H' p z [] [] false 0 → Grow [p] (mutsR p z) F H F' H' → Q .non H'
theorem ok_Reading_init (T : Txt K mg A) : FnOk P w K mg base CX0 3 A.f_Reading_init A.d_Reading_init ["self"] (spReadInit A) := by
  refine T.F_Reading_init.ok sc_Reading_init (fun vs H Q E h => ?_) (fun cdv Ar outer s H vs Q E hr h => ?_)
  · obtain ⟨p, dx, F, rfl, _⟩ := h
    rfl
  · obtain ⟨p, dx, F, rfl, hp, sF, fp, k⟩ := h
    refine ⟨_, (pss_cons (ps_fld (pv 0) (pe_make0 T.M_Calendar (ok_Calendar_init T) (hr.mono (by decide)) rfl T.g_Calendar (b_Calendar_init T) .nil pass0) rfl)
      (pss_cons (ps_fld (pv 0) pe_bl rfl)
      (pss_one (ps_fld (pv 0) pe_int rfl)))), ?_⟩
    intro c dxc nc ndxc nec
    refine ⟨c, dxc, rfl, upd_same, fun H1 tt ds Nw => ⟨rfl, ?_⟩⟩
    obtain ⟨M, CA0, fresh⟩ := cal_made (CD := A.c_Date) sF nc ndxc nec Nw
    have np : ∀ m ∈ mutsC c ⟨dxc, tt, ds, []⟩, m ≠ p := fun m hm e => by
      have := fresh m hm
      rw [e, hp] at this
      cases this
    have Fp : (upd F tt (.lst (nv []))) p = none := by rw [M.fn p (by rw [hp]; simp)]; exact fp
    refine ⟨_, rfl, p, A.c_Reading, dx, [], rfl, M.hh _ _ hp, T.C_Reading, T.n_Reading_calendar, (by show 0 < 1000; decide), ?_⟩
    have l1 := putF_le "calendar" (.ref c) []
    refine ⟨_, rfl, p, A.c_Reading, dx, _, rfl, upd_same, T.C_Reading, T.n_Reading_within_date, Nat.lt_of_le_of_lt l1 (by decide), ?_⟩
    have l2 := Nat.le_trans (putF_le "within_date" (.bl false) _) (Nat.succ_le_succ l1)
    refine ⟨_, rfl, p, A.c_Reading, dx, _, rfl, upd_same, T.C_Reading, T.n_Reading_fault, Nat.lt_of_le_of_lt l2 (by decide), ?_⟩
    rw [upd_upd, upd_upd, new_reading]
    have g : Grow [p] [p] (upd F tt (.lst (nv []))) H1 (upd F tt (.lst (nv []))) (upd H1 p (.ins A.c_Reading dx (rFs (.ref c) (.bl false) (.int 0)))) := Grow.put M.sm (by simp) Fp
    refine k _ _ ⟨dx, c, ⟨dxc, tt, ds, []⟩⟩ ⟨upd_same, CA0.keep g fun m hm e => np m hm (by simpa using e), fun z => np p z rfl, Fp⟩ ?_
    have g2 := Grow.after M g
    refine ⟨g2.hh, g2.ff, g2.fn, g2.sm, fun m hm => ?_, g2.tr⟩
    rcases List.mem_cons.mp hm with rfl | hm
    · exact .inl (by simp)
    · exact .inr (fresh m hm)
def spTitle (A : Ad) : Sp := fun vs H Q _ => ∃ (c v : Addr) (y : CA) (t : List Nat) (rs : List (Cl09.Date × Bool)) (F : Hp) (l : List Nat), vs = [.ref c, .ref v] ∧ CalAt A.c_Calendar A.c_Date F H c y t rs ∧ F v = some (.lst (nv l)) ∧ l.length ≤ 1000 ∧
  ∀ F' H' y', Grow (mutsC c y) (mutsC c y') F H F' H' → CalAt A.c_Calendar A.c_Date F' H' c y' (fTitle t rs l).2 rs → Q (.int ((fTitle t rs l).1 : Int)) H'
theorem cFs_len (a b : V) : (cFs a b).length < 1000 := by show 2 < 1000; decide
theorem ok_read_title (T : Txt K mg A) : FnOk P w K mg base CX0 4 A.f_read_title A.d_read_title ["calendar", "value"] (spTitle A) := by
  refine T.F_read_title.ok sc_read_title (fun vs H Q E h => ?_) (fun cdv Ar outer s H vs Q E hr h => ?_)
  · obtain ⟨c, v, y, t, rs, F, l, rfl, _⟩ := h
    rfl
  · obtain ⟨c, v, y, t, rs, F, l, rfl, CA0, hv, hl, k⟩ := h
    refine ⟨_, (pss_cons (ps_if (pt_cmpR op_gt (pe_callB call_len_seq (by rfl) T.z_len PySem.boot_len (pa_cons (pe_fld (pv 0) rfl) pa_nil)) pe_int (nomark _))
        (pss_one (ps_ret (pe_gi T.g_MISPLACED)))
        pss_nil)
      (pss_cons (ps_set (i := 2) sc_read_title.nd rfl (Or.inl rfl) (pe_call (ok_read_name T) (hr.mono (by decide)) (by rfl) T.g_read_name T.F_read_name.kp (b_read_name T) .nil pass0 (pa_cons (pv 1) pa_nil)))
      (pss_cons (ps_if (pt_cmpR op_eq (pe_callB call_len_seq (by rfl) T.z_len PySem.boot_len (pa_cons (pv 2) pa_nil)) pe_int (nomark _))
        (pss_one (ps_ret (pe_gi T.g_WRONG_VALUE)))
        pss_nil)
      (pss_cons (ps_if (pt_cmpR op_gt (pe_callB call_len_seq (by rfl) T.z_len PySem.boot_len (pa_cons (pe_fld (pv 0) rfl) pa_nil)) pe_int (nomark _))
        (pss_one (ps_ret (pe_gi T.g_TOO_MANY)))
        pss_nil)
      (pss_cons (ps_fld (pv 0) (pv 2) rfl)
      (pss_one (ps_ret (pe_gi T.g_RIGHT)))))))), ?_⟩
    have sF := CA0.sm
    have dl := CA0.dates.len
    refine ⟨_, rfl, c, _, _, _, _, rfl, CA0.ins, T.C_Calendar, T.n_Calendar_dates, cFs_dates, y.ds, _, rfl, .inl (SqL.of CA0.ds), _, _, rfl, rfl, _, rfl, ite2 (fun z => ?_) (fun z => ?_)⟩
    · have z1 := of_decide_eq_true z
      rw [List.length_map, dl] at z1
      have e : fTitle t rs l = (2, t) := if_pos fun e => by rw [e] at z1; exact absurd z1 (by decide)
      rw [e] at k
      exact k F H y (Grow.more (More.refl sF)) CA0
    have z1 : rs = [] := by
      by_cases q : rs = []
      · exact q
      · refine absurd (decide_eq_true ?_) z
        rw [List.length_map, dl]
        have := List.length_pos_iff.mpr q
        omega
    refine ⟨_, rfl, v, l, rfl, sF _ _ hv, by omega, fun H1 p R => ?_⟩
    have M0 := More.same sF R.sm
    have CA1 := CA0.more M0
    refine ⟨_, rfl, p, _, rfl, .inl (SqL.of R.at_), rfl, _, rfl, ite2 (fun z => ?_) (fun z => ?_)⟩
    · have e : fTitle t rs l = (3, t) := (if_neg fun q => q z1).trans (if_pos (nil_of_len (V.int.inj (of_decide_eq_true z))))
      rw [e] at k
      exact k F H1 y (Grow.more M0) CA1
    have z2 : ¬ readN l = [] := fun q => z (decide_eq_true (by rw [q]; rfl))
    refine ⟨_, rfl, c, _, _, _, _, rfl, CA1.ins, T.C_Calendar, T.n_Calendar_title, cFs_title, y.tt, _, rfl, .inl (SqL.of (M0.sm _ _ CA1.tt)), _, _, rfl, rfl, _, rfl, ite2 (fun z => ?_) (fun z => ?_)⟩
    · have z3 := of_decide_eq_true z
      rw [nv_len] at z3
      have e : fTitle t rs l = (4, t) := (if_neg fun q => q z1).trans ((if_neg z2).trans (if_pos fun e => by rw [e] at z3; exact absurd z3 (by decide)))
      rw [e] at k
      exact k F H1 y (Grow.more M0) CA1
    · have z3 : t = [] := by
        by_cases q : t = []
        · exact q
        · refine absurd (decide_eq_true ?_) z
          rw [nv_len]
          have := List.length_pos_iff.mpr q
          omega
      have e : fTitle t rs l = (0, readN l) := (if_neg fun q => q z1).trans ((if_neg z2).trans (if_neg fun q => q z3))
      rw [e] at k
      refine ⟨_, rfl, _, rfl, c, _, _, _, rfl, CA1.ins, T.C_Calendar, T.n_Calendar_title, cFs_len _ _, ?_⟩
      have M := More.freeze sF R.sm R.nw R.at_
      have Z := CalAt.title CA0 M (t' := readN l) upd_same
      show Q (.int 0) (upd H1 c (.ins A.c_Calendar y.dx (putF "title" (.ref p) (cFs (.ref y.tt) (.ref y.ds)))))
      rw [put_title]
      exact k _ _ _ Z.2 Z.1
end
end Ct

set_option Elab.async false
set_option linter.all false
set_option maxRecDepth 100000
set_option maxHeartbeats 4000000
namespace Ct
open PySem PySem.Spec PyProof.Rows L2
section
variable {P : Program} {w : World} {K : PySem.W.Frag} {mg : Str → Option Value} {base : Heap} {A : Ad}
theorem a_date : (Str.ofString "date").cps.toList = Cl09.ascii "date" := by decide +kernel
def spBegin (A : Ad) : Sp := fun vs H Q _ => ∃ (p v : Addr) (z : RA) (t : List Nat) (rs : List (Cl09.Date × Bool)) (f : Int) (F : Hp) (l : List Nat), vs = [.ref p, .ref v] ∧ ReadAt (csOf A) F H p z t rs false f ∧ F v = some (.lst (nv l)) ∧ rs.length ≤ 6 ∧
  (fBegin rs l ≠ 0 → ∀ H', Same H H' → Q (.int (fBegin rs l : Nat)) H') ∧
  (fBegin rs l = 0 → ∀ F' H' z', Grow (mutsR p z) (mutsR p z') F H F' H' → ReadAt (csOf A) F' H' p z' t (rs ++ [(Cl09.blank, false)]) true f → Q (.int 0) H')
theorem rFs_len (a b c : V) : (rFs a b c).length < 1000 := by show 3 < 1000; decide
theorem ok_read_begin (T : Txt K mg A) : FnOk P w K mg base CX0 3 A.f_read_begin A.d_read_begin ["reading", "value"] (spBegin A) := by
  refine T.F_read_begin.ok sc_read_begin (fun vs H Q E h => ?_) (fun cdv Ar outer s H vs Q E hr h => ?_)
  · obtain ⟨p, v, z, t, rs, f, F, l, rfl, _⟩ := h
    rfl
  · obtain ⟨p, v, z, t, rs, f, F, l, rfl, R, hv, hl, k1, k2⟩ := h
    refine ⟨_, (pss_cons (ps_if (pt_cmpR (op_neD hr.units) (pv 1) (pe_call (ok_row_of T) (hr.mono (by decide)) (by rfl) T.g_row_of T.F_row_of.kp (b_row_of T) .nil pass0 (pa_cons pe_str pa_nil)) (nomark _))
        (pss_one (ps_ret (pe_gi T.g_WRONG_VALUE)))
        pss_nil)
      (pss_cons (ps_if (pt_cmpR op_ge (pe_callB call_len_seq (by rfl) T.z_len PySem.boot_len (pa_cons (pe_fld (pe_fld (pv 0) rfl) rfl) pa_nil)) (pe_gi T.g_MOST_DATES) (nomark _))
        (pss_one (ps_ret (pe_gi T.g_TOO_MANY)))
        pss_nil)
      (pss_cons (ps_expr (pe_bm PySem.F.plainAttrs_list PySem.F.slot_list_append PySem.F.type_list_append mt_append (pe_fld (pe_fld (pv 0) rfl) rfl) (pa_cons (pe_make0 T.M_Date (ok_Date_init T) (hr.mono (by decide)) rfl T.g_Date (b_Date_init T) .nil pass0) pa_nil)))
      (pss_cons (ps_fld (pv 0) pe_bl rfl)
      (pss_one (ps_ret (pe_gi T.g_RIGHT))))))), ?_⟩
    have sF := R.cal.sm
    refine ⟨_, rfl, "date", rfl, by decide +kernel, fun H1 p1 N => ?_⟩
    have M1 := More.same sF N.sm
    have R1 := R.more M1
    refine ⟨dn l, dn (Cl09.ascii "date"), dp_row (M1.sm _ _ hv), dp_row (by rw [N.at_, a_date]), sh_row _, sh_row _, _, rfl, ?_⟩
    rw [eqv_row]
    by_cases y : l = Cl09.ascii "date"
    · rw [decide_eq_true y]
      refine iteF ?_
      have dl := R.cal.dates.len
      refine ⟨_, rfl, p, _, _, _, _, rfl, R1.ins, T.C_Reading, T.n_Reading_calendar, rFs_calendar, z.c, _, _, _, _, rfl, R1.cal.ins, T.C_Calendar, T.n_Calendar_dates, cFs_dates, z.y.ds, _, rfl, .inl (SqL.of R1.cal.ds), _, _, rfl, rfl, _, rfl, ite2 (fun c => ?_) (fun c => ?_)⟩
      · have c1 := of_decide_eq_true c
        rw [List.length_map, dl] at c1
        have q : fBegin rs l = 4 := (if_neg fun w => w y).trans (if_pos (by omega))
        rw [q] at k1
        exact k1 (by decide) H1 N.sm
      · have c1 : ¬ (6 : Int) ≤ ((z.y.das.map fun p => V.ref p.1).length : Int) := fun w => c (decide_eq_true w)
        rw [List.length_map, dl] at c1
        have q : fBegin rs l = 0 := (if_neg fun w => w y).trans (if_neg (by omega))
        refine ⟨_, rfl, p, _, _, _, _, rfl, R1.ins, T.C_Reading, T.n_Reading_calendar, rFs_calendar, z.c, _, _, _, _, rfl, R1.cal.ins, T.C_Calendar, T.n_Calendar_dates, cFs_dates, .inl ⟨rfl, _, SqL.of R1.cal.ds⟩, fun d dx nd ndx ne => ?_⟩
        refine ⟨d, dx, rfl, upd_same, fun H2 x Nw => ⟨rfl, ?_⟩⟩
        obtain ⟨M2, D2, fresh⟩ := date_made R1.cal.sm nd ndx ne Nw
        refine ⟨z.y.ds, _, _, rfl, rfl, M2.hh _ _ R1.cal.ds, ?_, ?_⟩
        · rw [List.length_map, dl]
          exact sz (by omega)
        · have Z := CalAt.push R1.cal M2 D2 fresh
          have Y := ReadAt.cal' R1 Z.2 Z.1
          refine ⟨_, rfl, p, _, _, _, rfl, Y.1.ins, T.C_Reading, T.n_Reading_within_date, rFs_len _ _ _, ?_⟩
          rw [put_within]
          have X := ReadAt.own (b' := true) (f' := f) Y.1
          exact k2 q _ _ _ (Grow.after M1 (Y.2.trans X.2)) X.1
    · rw [decide_eq_false y]
      refine iteT ?_
      have q : fBegin rs l = 3 := if_pos y
      rw [q] at k1
      exact k1 (by decide) H1 N.sm
def spEnd (A : Ad) : Sp := fun vs H Q _ => ∃ (p d v : Addr) (x : DA) (r : Cl09.Date) (has : Bool) (z : RA) (t : List Nat) (rs : List (Cl09.Date × Bool)) (f : Int) (F : Hp) (l : List Nat), vs = [.ref p, .ref d, .ref v] ∧ ReadAt (csOf A) F H p z t rs true f ∧ DateAt A.c_Date F H d x r has ∧ F v = some (.lst (nv l)) ∧
  ∀ F' H' z', Grow (mutsR p z) (mutsR p z') F H F' H' → ReadAt (csOf A) F' H' p z' t rs (decide (fEnd has l ≠ 0)) f → Q (.int (fEnd has l : Nat)) H'
theorem ok_read_end (T : Txt K mg A) : FnOk P w K mg base CX0 2 A.f_read_end A.d_read_end ["reading", "date", "value"] (spEnd A) := by
  refine T.F_read_end.ok sc_read_end (fun vs H Q E h => ?_) (fun cdv Ar outer s H vs Q E hr h => ?_)
  · obtain ⟨p, d, v, x, r, has, z, t, rs, f, F, l, rfl, _⟩ := h
    rfl
  · obtain ⟨p, d, v, x, r, has, z, t, rs, f, F, l, rfl, R, D, hv, k⟩ := h
    refine ⟨_, (pss_cons (ps_if (pt_cmpR (op_neD hr.units) (pv 2) (pe_call (ok_row_of T) (hr.mono (by decide)) (by rfl) T.g_row_of T.F_row_of.kp (b_row_of T) .nil pass0 (pa_cons pe_str pa_nil)) (nomark _))
        (pss_one (ps_ret (pe_gi T.g_WRONG_VALUE)))
        pss_nil)
      (pss_cons (ps_if (pt_cmpR op_isN (pe_fld (pv 1) rfl) pe_non (nomark _))
        (pss_one (ps_ret (pe_gi T.g_UNFINISHED)))
        pss_nil)
      (pss_cons (ps_fld (pv 0) pe_bl rfl)
      (pss_one (ps_ret (pe_gi T.g_RIGHT)))))), ?_⟩
    have sF := R.cal.sm
    refine ⟨_, rfl, "date", rfl, by decide +kernel, fun H1 p1 N => ?_⟩
    have M1 := More.same sF N.sm
    have R1 := R.more M1
    have D1 := D.more M1
    refine ⟨dn l, dn (Cl09.ascii "date"), dp_row (M1.sm _ _ hv), dp_row (by rw [N.at_, a_date]), sh_row _, sh_row _, _, rfl, ?_⟩
    rw [eqv_row]
    by_cases y : l = Cl09.ascii "date"
    · rw [decide_eq_true y]
      refine iteF ?_
      refine ⟨_, rfl, d, _, _, _, _, rfl, D1.ins, T.C_Date, T.n_Date_day, dFs_day, rfl, _, rfl, ?_⟩
      cases hc : has with
      | false =>
        have q : fEnd has l = 5 := by rw [hc]; exact (if_neg fun w => w y).trans (if_pos rfl)
        rw [q] at k
        refine if_true_of (by simp) ?_
        exact k F H1 z (Grow.more M1) R1
      | true =>
        have q : fEnd has l = 0 := by rw [hc]; exact (if_neg fun w => w y).trans (if_neg (by decide))
        rw [q] at k
        refine if_false_of (by simp) ?_
        refine ⟨_, rfl, p, _, _, _, rfl, R1.ins, T.C_Reading, T.n_Reading_within_date, rFs_len _ _ _, ?_⟩
        rw [put_within]
        have X := ReadAt.own (b' := false) (f' := f) R1
        exact k _ _ _ (Grow.after M1 X.2) X.1
    · rw [decide_eq_false y]
      refine iteT ?_
      have q : fEnd has l = 3 := if_pos y
      rw [q] at k
      exact k F H1 z (Grow.more M1) R1
/-! ### a line outside of a date -/
theorem a_title : (Str.ofString "title").cps.toList = Cl09.ascii "title" := by decide +kernel
theorem a_begin : (Str.ofString "begin").cps.toList = Cl09.ascii "begin" := by decide +kernel
/-- how a line's answer goes on -/
def spLineOut (A : Ad) (p : Addr) (z : RA) (f : Int) (F H : Hp) (Q : VK) (e : Except Nat Cl09.Read) : Prop :=
  ∀ F' H' z' t' rs' b' (k : Nat), Grow (mutsR p z) (mutsR p z') F H F' H' → ReadAt (csOf A) F' H' p z' t' rs' b' f → Out e k t' rs' b' → Q (.int (k : Int)) H'
def spOutside (A : Ad) : Sp := fun vs H Q _ => ∃ (p n v : Addr) (z : RA) (t : List Nat) (rs : List (Cl09.Date × Bool)) (f : Int) (F : Hp) (r : Cl09.Read) (nm l : List Nat), vs = [.ref p, .ref n, .ref v] ∧ ReadAt (csOf A) F H p z t rs false f ∧ ROut r t rs ∧ F n = some (.lst (nv nm)) ∧ F v = some (.lst (nv l)) ∧ l.length ≤ 1000 ∧
  spLineOut A p z f F H Q (outS r nm l)
theorem ok_read_outside (T : Txt K mg A) : FnOk P w K mg base CX0 5 A.f_read_outside A.d_read_outside ["reading", "name", "value"] (spOutside A) := by
  refine T.F_read_outside.ok sc_read_outside (fun vs H Q E h => ?_) (fun cdv Ar outer s H vs Q E hr h => ?_)
  · obtain ⟨p, n, v, z, t, rs, f, F, r, nm, l, rfl, _⟩ := h
    rfl
  · obtain ⟨p, n, v, z, t, rs, f, F, r, nm, l, rfl, R, O, hn, hv, hl, k⟩ := h
    refine ⟨_, (pss_cons (ps_if (pt_cmpR (op_eqD hr.units) (pv 1) (pe_call (ok_row_of T) (hr.mono (by decide)) (by rfl) T.g_row_of T.F_row_of.kp (b_row_of T) .nil pass0 (pa_cons pe_str pa_nil)) (nomark _))
        (pss_one (ps_ret (pe_call (ok_read_title T) (hr.mono (by decide)) (by rfl) T.g_read_title T.F_read_title.kp (b_read_title T) .nil pass0 (pa_cons (pe_fld (pv 0) rfl) (pa_cons (pv 2) pa_nil)))))
        pss_nil)
      (pss_cons (ps_if (pt_cmpR (op_eqD hr.units) (pv 1) (pe_call (ok_row_of T) (hr.mono (by decide)) (by rfl) T.g_row_of T.F_row_of.kp (b_row_of T) .nil pass0 (pa_cons pe_str pa_nil)) (nomark _))
        (pss_one (ps_ret (pe_call (ok_read_begin T) (hr.mono (by decide)) (by rfl) T.g_read_begin T.F_read_begin.kp (b_read_begin T) .nil pass0 (pa_cons (pv 0) (pa_cons (pv 2) pa_nil)))))
        pss_nil)
      (pss_one (ps_ret (pe_gi T.g_MISPLACED))))), ?_⟩
    have sF := R.cal.sm
    refine ⟨_, rfl, "title", rfl, by decide +kernel, fun H1 p1 N1 => ?_⟩
    have M1 := More.same sF N1.sm
    have R1 := R.more M1
    refine ⟨dn nm, dn (Cl09.ascii "title"), dp_row (M1.sm _ _ hn), dp_row (by rw [N1.at_, a_title]), sh_row _, sh_row _, _, rfl, ?_⟩
    rw [eqv_row]
    refine ite2 (fun c => ?_) (fun c => ?_)
    · have c1 := of_decide_eq_true c
      subst c1
      refine ⟨_, rfl, p, _, _, _, _, rfl, R1.ins, T.C_Reading, T.n_Reading_calendar, rFs_calendar, _, rfl, z.c, v, z.y, t, rs, F, l, rfl, R1.cal, hv, hl, fun F' H' y' g CA' => ?_⟩
      have Y := ReadAt.cal' R1 g CA'
      exact k _ _ _ _ _ _ _ (Grow.after M1 Y.2) Y.1 (step_title O l)
    have c1 : ¬ nm = Cl09.ascii "title" := fun w => c (decide_eq_true w)
    refine ⟨_, rfl, "begin", rfl, by decide +kernel, fun H2 p2 N2 => ?_⟩
    have M2 := M1.trans (More.same M1.sm N2.sm)
    have R2 := R.more M2
    refine ⟨dn nm, dn (Cl09.ascii "begin"), dp_row (M2.sm _ _ hn), dp_row (by rw [N2.at_, a_begin]), sh_row _, sh_row _, _, rfl, ?_⟩
    rw [eqv_row]
    refine ite2 (fun c => ?_) (fun c => ?_)
    · have c2 := of_decide_eq_true c
      subst c2
      refine ⟨_, rfl, _, rfl, p, v, z, t, rs, f, F, l, rfl, R2, hv, O.dl, fun q H' s' => ?_, fun q F' H' z' g R' => ?_⟩
      · rcases step_begin O l with ⟨_, e⟩ | ⟨e, _⟩
        · have M3 := M2.trans (More.same M2.sm s')
          rw [e] at k
          exact k F H' z t rs false _ (Grow.more M3) (R.more M3) ⟨rfl, q⟩
        · exact absurd e q
      · rcases step_begin O l with ⟨e, _⟩ | ⟨_, e⟩
        · exact absurd q e
        · exact k _ _ _ _ _ _ 0 (Grow.after M2 g) R' e
    · have c2 : ¬ nm = Cl09.ascii "begin" := fun w => c (decide_eq_true w)
      have e : outS r nm l = .error 2 := (if_neg c1).trans (if_neg c2)
      rw [e] at k
      exact k F H2 z t rs false 2 (Grow.more M2) R2 ⟨rfl, by decide⟩
end
end Ct

set_option Elab.async false
set_option linter.all false
set_option maxRecDepth 100000
set_option maxHeartbeats 4000000
namespace Ct
open PySem PySem.Spec PyProof.Rows L2
theorem DatesAt.unsnoc {C : Addr} {F H : Hp} : ∀ {as : List (Addr × DA)} {rs : List (Cl09.Date × Bool)} {q : Cl09.Date × Bool}, DatesAt C F H as (rs ++ [q]) → ∃ pre d x, as = pre ++ [(d, x)] ∧ rs.length = pre.length ∧ DateAt C F H d x q.1 q.2
  | [p], [], q, h => ⟨[], p.1, p.2, rfl, rfl, h.1⟩
  | p :: r, e :: s, q, h => by
    obtain ⟨pre, d, x, h1, h2, h3⟩ := DatesAt.unsnoc (as := r) (rs := s) (q := q) h.2
    exact ⟨p :: pre, d, x, by rw [h1]; rfl, by simp [h2], h3⟩
  | [], [], _, h => h.elim
  | [], _ :: _, _, h => h.elim
  | a :: b :: r, [], q, h => h.2.elim
section
variable {P : Program} {w : World} {K : PySem.W.Frag} {mg : Str → Option Value} {base : Heap} {A : Ad}
theorem a_name : (Str.ofString "name").cps.toList = Cl09.ascii "name" := by decide +kernel
theorem a_at : (Str.ofString "at").cps.toList = Cl09.ascii "at" := by decide +kernel
theorem a_long : (Str.ofString "long").cps.toList = Cl09.ascii "long" := by decide +kernel
theorem a_ring : (Str.ofString "ring").cps.toList = Cl09.ascii "ring" := by decide +kernel
theorem a_tag : (Str.ofString "tag").cps.toList = Cl09.ascii "tag" := by decide +kernel
theorem a_end : (Str.ofString "end").cps.toList = Cl09.ascii "end" := by decide +kernel
theorem extra_is {n : List Nat} (h1 : n.length ≤ 16) (h2 : n.all okN = true) : Cl09.isExtra n = decide (n.take 2 = Cl09.ascii "x-" ∧ 3 ≤ n.length) := by
  unfold Cl09.isExtra
  rw [decide_eq_true h1, Bool.true_and]
  have e : (n.all fun c => Cl09.isLetter c || c == 45) = true := h2
  rw [e, Bool.and_true, Bool.eq_iff_iff]
  simp
def spWithin (A : Ad) : Sp := fun vs H Q _ => ∃ (p n v : Addr) (z : RA) (t : List Nat) (rp : List (Cl09.Date × Bool)) (d : Cl09.Date) (has : Bool) (had : List Cl09.Bytes) (f : Int) (F : Hp) (r : Cl09.Read) (nm l : List Nat), vs = [.ref p, .ref n, .ref v] ∧ ReadAt (csOf A) F H p z t (rp ++ [(d, has)]) true f ∧ RIn r d had t rp has ∧
  F n = some (.lst (nv nm)) ∧ F v = some (.lst (nv l)) ∧ l.length ≤ 700 ∧ nm.length ≤ 16 ∧ nm.all okN = true ∧ spLineOut A p z f F H Q (inS r d had nm l)
theorem ok_read_within (T : Txt K mg A) : FnOk P w K mg base CX0 5 A.f_read_within A.d_read_within ["reading", "name", "value"] (spWithin A) := by
  refine T.F_read_within.ok sc_read_within (fun vs H Q E h => ?_) (fun cdv Ar outer s H vs Q E hr h => ?_)
  · obtain ⟨p, n, v, z, t, rp, d, has, had, f, F, r, nm, l, rfl, _⟩ := h
    rfl
  · obtain ⟨p, n, v, z, t, rp, d, has, had, f, F, r, nm, l, rfl, R, O, hn, hv, hl, hnl, hok, k⟩ := h
    refine ⟨_, (pss_cons (ps_set (i := 3) sc_read_within.nd rfl (Or.inl rfl) (pe_ix ix_list (pe_fld (pe_fld (pv 0) rfl) rfl) (pe_un un_neg pe_int) (fun _ _ => rfl)))
      (pss_cons (ps_if (pt_cmpR (op_eqD hr.units) (pv 1) (pe_call (ok_row_of T) (hr.mono (by decide)) (by rfl) T.g_row_of T.F_row_of.kp (b_row_of T) .nil pass0 (pa_cons pe_str pa_nil)) (nomark _))
        (pss_one (ps_ret (pe_call (ok_read_date_name T) (hr.mono (by decide)) (by rfl) T.g_read_date_name T.F_read_date_name.kp (b_read_date_name T) .nil pass0 (pa_cons (pv 3) (pa_cons (pv 2) pa_nil)))))
        pss_nil)
      (pss_cons (ps_if (pt_cmpR (op_eqD hr.units) (pv 1) (pe_call (ok_row_of T) (hr.mono (by decide)) (by rfl) T.g_row_of T.F_row_of.kp (b_row_of T) .nil pass0 (pa_cons pe_str pa_nil)) (nomark _))
        (pss_one (ps_ret (pe_call (ok_read_at T) (hr.mono (by decide)) (by rfl) T.g_read_at T.F_read_at.kp (b_read_at T) .nil pass0 (pa_cons (pv 3) (pa_cons (pv 2) pa_nil)))))
        pss_nil)
      (pss_cons (ps_if (pt_cmpR (op_eqD hr.units) (pv 1) (pe_call (ok_row_of T) (hr.mono (by decide)) (by rfl) T.g_row_of T.F_row_of.kp (b_row_of T) .nil pass0 (pa_cons pe_str pa_nil)) (nomark _))
        (pss_one (ps_ret (pe_call (ok_read_long T) (hr.mono (by decide)) (by rfl) T.g_read_long T.F_read_long.kp (b_read_long T) .nil pass0 (pa_cons (pv 3) (pa_cons (pv 2) pa_nil)))))
        pss_nil)
      (pss_cons (ps_if (pt_cmpR (op_eqD hr.units) (pv 1) (pe_call (ok_row_of T) (hr.mono (by decide)) (by rfl) T.g_row_of T.F_row_of.kp (b_row_of T) .nil pass0 (pa_cons pe_str pa_nil)) (nomark _))
        (pss_one (ps_ret (pe_call (ok_read_ring T) (hr.mono (by decide)) (by rfl) T.g_read_ring T.F_read_ring.kp (b_read_ring T) .nil pass0 (pa_cons (pv 3) (pa_cons (pv 2) pa_nil)))))
        pss_nil)
      (pss_cons (ps_if (pt_cmpR (op_eqD hr.units) (pv 1) (pe_call (ok_row_of T) (hr.mono (by decide)) (by rfl) T.g_row_of T.F_row_of.kp (b_row_of T) .nil pass0 (pa_cons pe_str pa_nil)) (nomark _))
        (pss_one (ps_ret (pe_call (ok_read_tag T) (hr.mono (by decide)) (by rfl) T.g_read_tag T.F_read_tag.kp (b_read_tag T) .nil pass0 (pa_cons (pv 3) (pa_cons (pv 2) pa_nil)))))
        pss_nil)
      (pss_cons (ps_if (pt_cmpR (op_eqD hr.units) (pv 1) (pe_call (ok_row_of T) (hr.mono (by decide)) (by rfl) T.g_row_of T.F_row_of.kp (b_row_of T) .nil pass0 (pa_cons pe_str pa_nil)) (nomark _))
        (pss_one (ps_ret (pe_call (ok_read_end T) (hr.mono (by decide)) (by rfl) T.g_read_end T.F_read_end.kp (b_read_end T) .nil pass0 (pa_cons (pv 0) (pa_cons (pv 3) (pa_cons (pv 2) pa_nil))))))
        pss_nil)
      (pss_cons (ps_if (pt_val (pe_call (ok_is_other_name T) (hr.mono (by decide)) (by rfl) T.g_is_other_name T.F_is_other_name.kp (b_is_other_name T) .nil pass0 (pa_cons (pv 1) pa_nil)))
        (pss_one (ps_ret (pe_call (ok_read_other T) (hr.mono (by decide)) (by rfl) T.g_read_other T.F_read_other.kp (b_read_other T) .nil pass0 (pa_cons (pv 3) (pa_cons (pv 1) (pa_cons (pv 2) pa_nil))))))
        pss_nil)
      (pss_cons (ps_if (PW.pt (pw_or (pt_cmpR (op_eqD hr.units) (pv 1) (pe_call (ok_row_of T) (hr.mono (by decide)) (by rfl) T.g_row_of T.F_row_of.kp (b_row_of T) .nil pass0 (pa_cons pe_str pa_nil)) (nomark _)) (pw_or1 (pt_cmpR (op_eqD hr.units) (pv 1) (pe_call (ok_row_of T) (hr.mono (by decide)) (by rfl) T.g_row_of T.F_row_of.kp (b_row_of T) .nil pass0 (pa_cons pe_str pa_nil)) (nomark _)))))
        (pss_one (ps_ret (pe_gi T.g_MISPLACED)))
        pss_nil)
      (pss_one (ps_ret (pe_gi T.g_UNKNOWN)))))))))))), ?_⟩
    have sF := R.cal.sm
    obtain ⟨pre, da, x, ed, el, D⟩ := DatesAt.unsnoc R.cal.dates
    refine ⟨_, rfl, p, _, _, _, _, rfl, R.ins, T.C_Reading, T.n_Reading_calendar, rFs_calendar, z.c, _, _, _, _, rfl, R.cal.ins, T.C_Calendar, T.n_Calendar_dates, cFs_dates, 1, rfl, z.y.ds, _, -1, .ref da, rfl, rfl, SqL.of R.cal.ds, (by rw [ed, List.map_append]; exact atI_last _ _), ?_⟩
    have M0 := More.refl sF
    refine ⟨_, rfl, "name", rfl, by decide +kernel, fun H1 p1 N1 => ?_⟩
    have M1 := M0.trans (More.same M0.sm N1.sm)
    have R1 := R.more M1
    have D1 := D.more M1
    refine ⟨dn nm, dn (Cl09.ascii "name"), dp_row (M1.sm _ _ hn), dp_row (by rw [N1.at_, a_name]), sh_row _, sh_row _, _, rfl, ?_⟩
    rw [eqv_row]
    refine ite2 (fun c => ?_) (fun c => ?_)
    · have ci := of_decide_eq_true c
      have e : inS r d had nm l = inName r d had l := (if_pos ci)
      rw [e] at k
      refine ⟨_, rfl, _, rfl, da, v, x, d, has, F, l, rfl, M1.sm, D1, O.wd, hv, by omega, fun F' H' x' g D' => ?_⟩
      have Y := ReadAt.date (post := []) (rq := []) R1 ed rfl el g D'
      exact k _ _ _ _ _ _ _ (Grow.after M1 Y.2) Y.1 (step_name O l)
    have c1 : ¬ nm = Cl09.ascii "name" := fun w => c (decide_eq_true w)
    refine ⟨_, rfl, "at", rfl, by decide +kernel, fun H2 p2 N2 => ?_⟩
    have M2 := M1.trans (More.same M1.sm N2.sm)
    have R2 := R.more M2
    have D2 := D.more M2
    refine ⟨dn nm, dn (Cl09.ascii "at"), dp_row (M2.sm _ _ hn), dp_row (by rw [N2.at_, a_at]), sh_row _, sh_row _, _, rfl, ?_⟩
    rw [eqv_row]
    refine ite2 (fun c => ?_) (fun c => ?_)
    · have ci := of_decide_eq_true c
      have e : inS r d had nm l = inAt r d had l := (if_neg c1).trans ((if_pos ci))
      rw [e] at k
      refine ⟨_, rfl, _, rfl, da, v, x, d, has, F, l, rfl, M2.sm, D2, O.wd, hv, by omega, fun F' H' x' g D' => ?_⟩
      have Y := ReadAt.date (post := []) (rq := []) R2 ed rfl el g D'
      exact k _ _ _ _ _ _ _ (Grow.after M2 Y.2) Y.1 (step_at O l)
    have c2 : ¬ nm = Cl09.ascii "at" := fun w => c (decide_eq_true w)
    refine ⟨_, rfl, "long", rfl, by decide +kernel, fun H3 p3 N3 => ?_⟩
    have M3 := M2.trans (More.same M2.sm N3.sm)
    have R3 := R.more M3
    have D3 := D.more M3
    refine ⟨dn nm, dn (Cl09.ascii "long"), dp_row (M3.sm _ _ hn), dp_row (by rw [N3.at_, a_long]), sh_row _, sh_row _, _, rfl, ?_⟩
    rw [eqv_row]
    refine ite2 (fun c => ?_) (fun c => ?_)
    · have ci := of_decide_eq_true c
      have e : inS r d had nm l = inLong r d had l := (if_neg c1).trans ((if_neg c2).trans ((if_pos ci)))
      rw [e] at k
      refine ⟨_, rfl, _, rfl, da, v, x, d, has, F, l, rfl, M3.sm, D3, O.wd, hv, by omega, fun F' H' x' g D' => ?_⟩
      have Y := ReadAt.date (post := []) (rq := []) R3 ed rfl el g D'
      exact k _ _ _ _ _ _ _ (Grow.after M3 Y.2) Y.1 (step_long O l)
    have c3 : ¬ nm = Cl09.ascii "long" := fun w => c (decide_eq_true w)
    refine ⟨_, rfl, "ring", rfl, by decide +kernel, fun H4 p4 N4 => ?_⟩
    have M4 := M3.trans (More.same M3.sm N4.sm)
    have R4 := R.more M4
    have D4 := D.more M4
    refine ⟨dn nm, dn (Cl09.ascii "ring"), dp_row (M4.sm _ _ hn), dp_row (by rw [N4.at_, a_ring]), sh_row _, sh_row _, _, rfl, ?_⟩
    rw [eqv_row]
    refine ite2 (fun c => ?_) (fun c => ?_)
    · have ci := of_decide_eq_true c
      have e : inS r d had nm l = inRing r d had l := (if_neg c1).trans ((if_neg c2).trans ((if_neg c3).trans ((if_pos ci))))
      rw [e] at k
      refine ⟨_, rfl, _, rfl, da, v, x, d, has, F, l, rfl, M4.sm, D4, O.wd, hv, by omega, fun F' H' x' g D' => ?_⟩
      have Y := ReadAt.date (post := []) (rq := []) R4 ed rfl el g D'
      exact k _ _ _ _ _ _ _ (Grow.after M4 Y.2) Y.1 (step_ring O l)
    have c4 : ¬ nm = Cl09.ascii "ring" := fun w => c (decide_eq_true w)
    refine ⟨_, rfl, "tag", rfl, by decide +kernel, fun H5 p5 N5 => ?_⟩
    have M5 := M4.trans (More.same M4.sm N5.sm)
    have R5 := R.more M5
    have D5 := D.more M5
    refine ⟨dn nm, dn (Cl09.ascii "tag"), dp_row (M5.sm _ _ hn), dp_row (by rw [N5.at_, a_tag]), sh_row _, sh_row _, _, rfl, ?_⟩
    rw [eqv_row]
    refine ite2 (fun c => ?_) (fun c => ?_)
    · have ci := of_decide_eq_true c
      have e : inS r d had nm l = inTag r d had l := (if_neg c1).trans ((if_neg c2).trans ((if_neg c3).trans ((if_neg c4).trans ((if_pos ci)))))
      rw [e] at k
      refine ⟨_, rfl, _, rfl, da, v, x, d, has, F, l, rfl, M5.sm, D5, O.wd, hv, by omega, fun F' H' x' g D' => ?_⟩
      have Y := ReadAt.date (post := []) (rq := []) R5 ed rfl el g D'
      exact k _ _ _ _ _ _ _ (Grow.after M5 Y.2) Y.1 (step_tag O l)
    have c5 : ¬ nm = Cl09.ascii "tag" := fun w => c (decide_eq_true w)
    refine ⟨_, rfl, "end", rfl, by decide +kernel, fun H6 p6 N6 => ?_⟩
    have M6 := M5.trans (More.same M5.sm N6.sm)
    have R6 := R.more M6
    have D6 := D.more M6
    refine ⟨dn nm, dn (Cl09.ascii "end"), dp_row (M6.sm _ _ hn), dp_row (by rw [N6.at_, a_end]), sh_row _, sh_row _, _, rfl, ?_⟩
    rw [eqv_row]
    refine ite2 (fun c => ?_) (fun c => ?_)
    · have ci := of_decide_eq_true c
      have e : inS r d had nm l = inEnd r d had l := (if_neg c1).trans ((if_neg c2).trans ((if_neg c3).trans ((if_neg c4).trans ((if_neg c5).trans ((if_pos ci))))))
      rw [e] at k
      refine ⟨_, rfl, _, rfl, _, rfl, p, da, v, x, d, has, z, t, _, f, F, l, rfl, R6, D6, hv, fun F' H' z' g R' => ?_⟩
      exact k _ _ _ _ _ _ _ (Grow.after M6 g) R' (step_end O l)
    have c6 : ¬ nm = Cl09.ascii "end" := fun w => c (decide_eq_true w)
    refine ⟨_, rfl, n, nm, rfl, M6.sm _ _ hn, by omega, fun H7 s7 => ⟨_, rfl, ?_⟩⟩
    have M7 := M6.trans (More.same M6.sm s7)
    have R7 := R.more M7
    have D7 := D.more M7
    rw [extra_is hnl hok]
    refine ite2 (fun c => ?_) (fun c => ?_)
    · have ci := of_decide_eq_true c
      have e : inS r d had nm l = inOther r d had nm l := (if_neg c1).trans ((if_neg c2).trans ((if_neg c3).trans ((if_neg c4).trans ((if_neg c5).trans ((if_neg c6).trans ((if_pos ci)))))))
      rw [e] at k
      refine ⟨_, rfl, _, rfl, _, rfl, da, n, v, x, d, has, F, nm, l, rfl, M7.sm, D7, O.wd, hn, hv, fun F' H' x' g D' => ?_⟩
      have Y := ReadAt.date (post := []) (rq := []) (q' := ((fOther d nm l).2, has)) R7 ed rfl el g D'
      exact k _ _ _ _ _ _ _ (Grow.after M7 Y.2) Y.1 (step_other O nm l hnl hl)
    have c7 : ¬ (nm.take 2 = Cl09.ascii "x-" ∧ 3 ≤ nm.length) := fun w => c (decide_eq_true w)
    have two : ∀ H', Same H7 H' → (nm = Cl09.ascii "begin" ∨ nm = Cl09.ascii "title") → Q (.int 2) H' := fun H' s' y => by
      have e : inS r d had nm l = .error 2 := (if_neg c1).trans ((if_neg c2).trans ((if_neg c3).trans ((if_neg c4).trans ((if_neg c5).trans ((if_neg c6).trans ((if_neg c7).trans (if_pos y)))))))
      rw [e] at k
      have M8 := M7.trans (More.same M7.sm s')
      exact k F H' z t _ true 2 (Grow.more M8) (R.more M8) ⟨rfl, by decide⟩
    refine ⟨_, rfl, "begin", rfl, by decide +kernel, fun H8 p8 N8 => ?_⟩
    have M8 := M7.trans (More.same M7.sm N8.sm)
    refine ⟨dn nm, dn (Cl09.ascii "begin"), dp_row (M8.sm _ _ hn), dp_row (by rw [N8.at_, a_begin]), sh_row _, sh_row _, _, rfl, ?_⟩
    rw [eqv_row]
    refine ite2 (fun c => ?_) (fun c => ?_)
    · exact iteT (two H8 N8.sm (.inl (of_decide_eq_true c)))
    have c8 : ¬ nm = Cl09.ascii "begin" := fun w => c (decide_eq_true w)
    refine ⟨_, rfl, "title", rfl, by decide +kernel, fun H9 p9 N9 => ?_⟩
    have M9 := M8.trans (More.same M8.sm N9.sm)
    refine ⟨dn nm, dn (Cl09.ascii "title"), dp_row (M9.sm _ _ hn), dp_row (by rw [N9.at_, a_title]), sh_row _, sh_row _, _, rfl, ?_⟩
    rw [eqv_row]
    refine ite2 (fun c => ?_) (fun c => ?_)
    · exact two H9 (N8.sm.trans N9.sm) (.inr (of_decide_eq_true c))
    · have c9 : ¬ nm = Cl09.ascii "title" := fun w => c (decide_eq_true w)
      have e : inS r d had nm l = .error 6 := (if_neg c1).trans ((if_neg c2).trans ((if_neg c3).trans ((if_neg c4).trans ((if_neg c5).trans ((if_neg c6).trans ((if_neg c7).trans (if_neg (fun y => y.elim c8 c9))))))))
      rw [e] at k
      exact k F H9 z t _ true 6 (Grow.more M9) (R.more M9) ⟨rfl, by decide⟩
end
end Ct

set_option Elab.async false
set_option linter.all false
set_option maxRecDepth 100000
set_option maxHeartbeats 4000000
namespace Ct
open PySem PySem.Spec PyProof.Rows L2
theorem take_tw (f : Nat → Bool) : ∀ l : List Nat, l.take (l.takeWhile f).length = l.takeWhile f
  | [] => rfl
  | x :: r => by
    have ih := take_tw f r
    rw [List.takeWhile_cons]
    cases f x with
    | false => rfl
    | true => simp [ih]
theorem all_tw (f : Nat → Bool) : ∀ l : List Nat, (l.takeWhile f).all f = true
  | [] => rfl
  | x :: r => by
    have ih := all_tw f r
    rw [List.takeWhile_cons]
    cases h : f x with
    | false => rfl
    | true => simp only [if_true, List.all_cons, h, ih, Bool.and_true]
theorem parted_cases (l : List Nat) : (nameSize l = 0 ∧ Cl09.parted l = none) ∨ (nameSize l = ((l.takeWhile okN).length : Int) ∧ 1 ≤ (l.takeWhile okN).length ∧ (l.takeWhile okN).length ≤ 16 ∧ Cl09.parted l = some (l.takeWhile okN, l.drop ((l.takeWhile okN).length + 1))) := by
  by_cases h : l.takeWhile okN = [] ∨ (16 < (l.takeWhile okN).length ∨ (l.drop (l.takeWhile okN).length).head? ≠ some 58)
  · refine .inl ⟨?_, parted_no h⟩
    unfold nameSize
    rw [parted_no h]
  · simp only [not_or] at h
    have e := parted_yes (l := l) (by omega) (Classical.byContradiction h.2.2) h.1
    refine .inr ⟨?_, List.length_pos_iff.mpr h.1, by omega, e⟩
    unfold nameSize
    rw [e]
section
variable {P : Program} {w : World} {K : PySem.W.Frag} {mg : Str → Option Value} {base : Heap} {A : Ad}
def spLine (A : Ad) : Sp := fun vs H Q _ => ∃ (p v : Addr) (z : RA) (t : List Nat) (rs : List (Cl09.Date × Bool)) (b : Bool) (f : Int) (F : Hp) (r : Cl09.Read) (l : List Nat), vs = [.ref p, .ref v] ∧ ReadAt (csOf A) F H p z t rs b f ∧ RR r t rs b ∧ F v = some (.lst (nv l)) ∧ l.length ≤ 700 ∧ spLineOut A p z f F H Q (Cl09.readLine r l)
theorem ok_read_line (T : Txt K mg A) : FnOk P w K mg base CX0 6 A.f_read_line A.d_read_line ["reading", "line"] (spLine A) := by
  refine T.F_read_line.ok sc_read_line (fun vs H Q E h => ?_) (fun cdv Ar outer s H vs Q E hr h => ?_)
  · obtain ⟨p, v, z, t, rs, b, f, F, r, l, rfl, _⟩ := h
    rfl
  · obtain ⟨p, v, z, t, rs, b, f, F, r, l, rfl, R, O, hv, hl, k⟩ := h
    refine ⟨_, (pss_cons (ps_set (i := 2) sc_read_line.nd rfl (Or.inl rfl) (pe_call (ok_name_size T) (hr.mono (by decide)) (by rfl) T.g_name_size T.F_name_size.kp (b_name_size T) .nil pass0 (pa_cons (pv 1) pa_nil)))
      (pss_cons (ps_if (pt_cmpR op_eq (pv 2) pe_int (nomark _))
        (pss_one (ps_ret (pe_gi T.g_NO_LINE)))
        pss_nil)
      (pss_cons (ps_set (i := 3) sc_read_line.nd rfl (Or.inl rfl) (pe_slice sl_list (pv 1) po_none (po_some (pv 2))))
      (pss_cons (ps_set (i := 4) sc_read_line.nd rfl (Or.inl rfl) (pe_slice sl_list (pv 1) (po_some (pe_op op_add (pv 2) pe_int)) po_none))
      (pss_cons (ps_if (pt_val (pe_fld (pv 0) rfl))
        (pss_one (ps_ret (pe_call (ok_read_within T) (hr.mono (by decide)) (by rfl) T.g_read_within T.F_read_within.kp (b_read_within T) .nil pass0 (pa_cons (pv 0) (pa_cons (pv 3) (pa_cons (pv 4) pa_nil))))))
        pss_nil)
      (pss_one (ps_ret (pe_call (ok_read_outside T) (hr.mono (by decide)) (by rfl) T.g_read_outside T.F_read_outside.kp (b_read_outside T) .nil pass0 (pa_cons (pv 0) (pa_cons (pv 3) (pa_cons (pv 4) pa_nil))))))))))), ?_⟩
    have sF := R.cal.sm
    refine ⟨_, rfl, v, l, rfl, sF _ _ hv, by omega, fun H1 s1 => ?_⟩
    have M1 := More.same sF s1
    have R1 := R.more M1
    refine ⟨_, rfl, rfl, _, rfl, ?_⟩
    rcases parted_cases l with ⟨e, ep⟩ | ⟨e, e1, e2, ep⟩
    · rw [e]
      refine if_true_of (decide_eq_true rfl) ?_
      rw [line_none ep] at k
      exact k F H1 z t rs b 1 (Grow.more M1) R1 ⟨rfl, by decide⟩
    · rw [e]
      refine if_false_of (decide_eq_false fun y => by have := V.int.inj y; omega) ?_
      refine ⟨_, rfl, _, rfl, _, rfl, v, _, rfl, SqL.of (M1.sm _ _ hv), fun n nn => ?_⟩
      have ec : cutV (nv l) none (some ((l.takeWhile okN).length : Int)) = nv (l.takeWhile okN) := by rw [cut_to, nv_take, take_tw]
      have M2 := M1.trans (More.freeze M1.sm (same_upd nn) nn (upd_same (H := H1) (a := n) (o := .lst (cutV (nv l) none (some ((l.takeWhile okN).length : Int))))))
      rw [ec] at M2 ⊢
      refine ⟨_, rfl, _, rfl, _, _, rfl, rfl, _, rfl, v, _, rfl, SqL.of (M2.sm _ _ (M2.ff _ _ hv)), fun u nu => ?_⟩
      have ed : cutV (nv l) (some (((l.takeWhile okN).length : Int) + 1)) none = nv (l.drop ((l.takeWhile okN).length + 1)) := by
        have := cut_from (nv l) ((l.takeWhile okN).length + 1)
        rw [nv_drop] at this
        exact this
      have M3 := M2.trans (More.freeze M2.sm (same_upd nu) nu (upd_same (a := u) (o := .lst (cutV (nv l) (some (((l.takeWhile okN).length : Int) + 1)) none))))
      have R3 := R.more M3
      have nun : n ≠ u := fun y => by rw [← y, upd_same] at nu; cases nu
      have fn : (upd (upd F n (.lst (nv (l.takeWhile okN)))) u (.lst (cutV (nv l) (some (((l.takeWhile okN).length : Int) + 1)) none))) n = some (.lst (nv (l.takeWhile okN))) := (upd_ne nun).trans upd_same
      have fu : (upd (upd F n (.lst (nv (l.takeWhile okN)))) u (.lst (cutV (nv l) (some (((l.takeWhile okN).length : Int) + 1)) none))) u = some (.lst (nv (l.drop ((l.takeWhile okN).length + 1)))) := by rw [upd_same, ed]
      have dl : (l.drop ((l.takeWhile okN).length + 1)).length ≤ 700 := by rw [List.length_drop]; omega
      refine ⟨_, rfl, p, _, _, _, _, rfl, R3.ins, T.C_Reading, T.n_Reading_within_date, rFs_within, _, rfl, ?_⟩
      rcases O with ⟨hb, O⟩ | ⟨hb, d, had, rp, has, ers, O⟩
      · subst hb
        rw [line_out ep O.op] at k
        exact iteF ⟨_, rfl, _, rfl, _, rfl, p, n, u, z, t, rs, f, _, r, _, _, rfl, R3, O, fn, fu, by omega, fun F' H' z' t' rs' b' j g R' o => k F' H' z' t' rs' b' j (Grow.after M3 g) R' o⟩
      · subst hb ers
        rw [line_in ep O.op] at k
        exact iteT ⟨_, rfl, _, rfl, _, rfl, p, n, u, z, t, rp, d, has, had, f, _, r, _, _, rfl, R3, O, fn, fu, dl, e2, all_tw _ _, fun F' H' z' t' rs' b' j g R' o => k F' H' z' t' rs' b' j (Grow.after M3 g) R' o⟩
/-! ### all lines -/
def faultI (e : Nat × Nat) : Int := -((100 + 10 * e.1 + e.2 : Nat) : Int)
def spLines2 (A : Ad) : Sp := fun vs H Q _ => ∃ (p a : Addr) (ps : List Addr) (z : RA) (t : List Nat) (rs : List (Cl09.Date × Bool)) (b : Bool) (f : Int) (F : Hp) (r : Cl09.Read) (ls : List (List Nat)), vs = [.ref p, .ref a] ∧ ReadAt (csOf A) F H p z t rs b f ∧ RR r t rs b ∧ F a = some (.lst (ps.map V.ref)) ∧ RowsAt F ps ls ∧ (∀ l ∈ ls, l.length ≤ 700) ∧
  ∀ F' H' z' t' rs' b' (k : Int), Grow (mutsR p z) (mutsR p z') F H F' H' → ReadAt (csOf A) F' H' p z' t' rs' b' f → (match Cl09.readAll 0 r ls with
    | .error e => k = faultI e
    | .ok r' => k = 0 ∧ RR r' t' rs' b') → Q (.int k) H'
theorem ok_read_lines (T : Txt K mg A) : FnOk P w K mg base CX0 7 A.f_read_lines A.d_read_lines ["reading", "lines"] (spLines2 A) := by
  refine T.F_read_lines.ok sc_read_lines (fun vs H Q E h => ?_) (fun cdv Ar outer s H vs Q E hr h => ?_)
  · obtain ⟨p, a, ps, z, t, rs, b, f, F, r, ls, rfl, _⟩ := h
    rfl
  · obtain ⟨p, a, ps, z, t, rs, b, f, F, r, ls, rfl, R, O, ha, rows, hls, k⟩ := h
    refine ⟨_, (pss_cons (ps_for PassesOwn.never rfl (pi_enum (by rfl) T.z_enumerate (pa_cons (pv 1) pa_nil)) (pg_tup rfl (pgs_cons (pg_name (i := 2) sc_read_lines.nd rfl (Or.inl rfl)) (pgs_cons (pg_name (i := 3) sc_read_lines.nd rfl (Or.inl rfl)) pgs_nil)))
        (pss_cons (ps_set (i := 4) sc_read_lines.nd rfl (Or.inl rfl) (pe_call (ok_read_line T) (hr.mono (by decide)) (by rfl) T.g_read_line T.F_read_line.kp (b_read_line T) .nil pass0 (pa_cons (pv 0) (pa_cons (pv 3) pa_nil))))
        (pss_one (ps_if (pt_cmpR op_ne (pv 4) (pe_gi T.g_RIGHT) (nomark _))
          (pss_one (ps_ret (pe_call (ok_told_fault T) (hr.mono (by decide)) (by rfl) T.g_told_fault T.F_told_fault.kp (b_told_fault T) .nil pass0 (pa_cons (pv 2) (pa_cons (pv 4) pa_nil)))))
          pss_nil))))
      (pss_one (ps_ret pe_int))), ?_⟩
    have sF := R.cal.sm
    have pl := rows.len
    refine ⟨_, rfl, a, _, rfl, SqL.of (sF _ _ ha), ?_⟩
    refine for_it (walk_enum (xs := ps.map V.ref)) (fun i σ H' => ∃ (F' : Hp) (z' : RA) (t' : List Nat) (rs' : List (Cl09.Date × Bool)) (b' : Bool) (r' : Cl09.Read) (v w u : Option V), σ = [some (.ref p), some (.ref a), v, w, u] ∧ Grow (mutsR p z) (mutsR p z') F H F' H' ∧ ReadAt (csOf A) F' H' p z' t' rs' b' f ∧ RR r' t' rs' b' ∧ Cl09.readAll 0 r ls = Cl09.readAll i r' (ls.drop i))
      ⟨F, z, t, rs, b, r, none, none, none, rfl, Grow.more (More.refl sF), R, O, rfl⟩ (fun _ _ _ _ ⟨_, _, _, _, _, _, _, _, _, _, g, _⟩ => SqL.of (g.sm _ _ (g.ff _ _ ha))) ?_ ?_
    · rintro i x σ H1 H2 hi ⟨F', z', t', rs', b', r', v, w, u, rfl, g, R', O', e⟩ ⟨U, y, x2, rfl, nU, rfl, hy, hx⟩
      obtain rfl := Option.some.inj hy
      obtain ⟨c, hc, rfl⟩ := refs_get hx
      obtain ⟨l, hl, hcl⟩ := RowsAt.get rows hc
      have hll : l.length ≤ 700 := hls l (List.mem_of_getElem? hl)
      have ed : ls.drop i = l :: ls.drop (i + 1) := by
        obtain ⟨h1, h2⟩ := List.getElem?_eq_some_iff.mp hl
        rw [List.drop_eq_getElem_cons h1, h2]
      have M := More.same g.sm (same_upd (o := .tup [.int (i : Nat), .ref c]) nU)
      have R2 := R'.more M
      refine ⟨U, _, rfl, .inl (.inl upd_same), rfl, _, _, rfl, _, [], rfl, rfl, ?_⟩
      refine ⟨_, rfl, _, rfl, p, c, z', t', rs', b', f, F', r', l, rfl, R2, O', g.ff _ _ hcl, hll, fun F3 H3 z3 t3 rs3 b3 j g3 R3 o3 => ?_⟩
      have G3 := g.trans (Grow.after M g3)
      rw [ed, Cl09.readAll] at e
      cases er : Cl09.readLine r' l with
      | error j' =>
        rw [er] at o3 e
        obtain ⟨rfl, hj⟩ := o3
        refine ⟨_, rfl, rfl, _, rfl, if_true_of ?_ ?_⟩
        · have : ¬ V.int (j : Int) = V.int 0 := fun y => by have := V.int.inj y; omega
          show (!decide (V.int (j : Int) = V.int 0)) = true
          rw [decide_eq_false this]
          rfl
        · refine ⟨_, rfl, _, rfl, i, j, rfl, k F3 H3 z3 t3 rs3 b3 _ G3 R3 ?_⟩
          rw [e]
          rfl
      | ok r3 =>
        rw [er] at o3 e
        obtain ⟨rfl, o3⟩ := o3
        refine ⟨_, rfl, rfl, _, rfl, if_false_of ?_ ?_⟩
        · show (!decide (V.int ((0 : Nat) : Int) = V.int 0)) = false
          have y : decide (V.int ((0 : Nat) : Int) = V.int 0) = true := decide_eq_true rfl
          rw [y]
          rfl
        · exact ⟨F3, z3, t3, rs3, b3, r3, _, _, _, rfl, G3, R3, o3, e⟩
    · rintro σ H1 ⟨F', z', t', rs', b', r', v, w, u, rfl, g, R', O', e⟩
      refine k F' H1 z' t' rs' b' 0 g R' ?_
      rw [e, List.length_map, pl, List.drop_length]
      exact ⟨rfl, O'⟩
end
end Ct

set_option Elab.async false
set_option linter.all false
set_option maxRecDepth 100000
set_option maxHeartbeats 4000000
namespace Ct
open PySem PySem.Spec PyProof.Rows L2
/-! ### lines -/
theorem splS_pos {m c : Nat} (h : c = m) (s : List (List Nat) × List Nat) : splS m s c = (s.1 ++ [s.2], []) := if_pos h
theorem splS_neg {m c : Nat} (h : ¬ c = m) (s : List (List Nat) × List Nat) : splS m s c = (s.1, s.2 ++ [c]) := if_neg h
theorem spl_pre (m : Nat) : ∀ (b : List Nat) (pre : List (List Nat)) (x : List Nat), b.foldl (splS m) (pre, x) = (pre ++ (b.foldl (splS m) ([], x)).1, (b.foldl (splS m) ([], x)).2)
  | [], pre, x => by simp
  | c :: r, pre, x => by
    rw [List.foldl_cons, List.foldl_cons]
    by_cases h : c = m
    · rw [splS_pos h, splS_pos h, spl_pre m r (pre ++ [x]) [], spl_pre m r ([] ++ [x]) []]
      simp
    · rw [splS_neg h, splS_neg h, spl_pre m r pre (x ++ [c])]
theorem go_spl : ∀ (b l x : List Nat), x = l.reverse → Cl09.lines.go b l = if (b.foldl (splS 10) ([], x)).2 = [] then some (b.foldl (splS 10) ([], x)).1 else none
  | [], l, x, e => by
    rw [Cl09.lines.go, e]
    simp
  | c :: r, l, x, e => by
    rw [Cl09.lines.go, List.foldl_cons]
    by_cases h : c = 10
    · rw [if_pos h, go_spl r [] [] rfl, splS_pos h]
      show Option.map _ _ = if (r.foldl (splS 10) ([] ++ [x], [])).2 = [] then some (r.foldl (splS 10) ([] ++ [x], [])).1 else none
      rw [spl_pre 10 r ([] ++ [x]) []]
      by_cases y : (r.foldl (splS 10) ([], [])).2 = []
      · rw [if_pos y, if_pos y, e]
        simp
      · rw [if_neg y, if_neg y]
        rfl
    · rw [if_neg h, go_spl r (c :: l) (x ++ [c]) (by rw [e]; simp), splS_neg h]
theorem lines_spl (b : List Nat) : Cl09.lines b = if (spl 10 b).2 = [] then some (spl 10 b).1 else none := by
  cases b with
  | nil => simp [Cl09.lines, spl]
  | cons c r =>
    show Cl09.lines.go (c :: r) [] = _
    rw [go_spl (c :: r) [] [] rfl]
    rfl
theorem linesOf_is (b : List Nat) : Cl09.linesOf b = (linesP b, decide ((spl 10 b).2 = [])) := by
  unfold Cl09.linesOf linesP
  rw [lines_spl, lines_spl]
  by_cases h : (spl 10 b).2 = []
  · simp [h]
  · have e : spl 10 (b ++ [10]) = (split 10 b, []) := by
      rw [spl_snoc]
      unfold splS split
      simp
    simp [h, e]
theorem ended_is (b : List Nat) : ended b = decide ((spl 10 b).2 = []) := by
  rcases List.eq_nil_or_concat b with rfl | ⟨r, c, rfl⟩
  · rfl
  · have e : ended (r.concat c) = (c == 10) := by
      unfold ended
      simp
    rw [e, List.concat_eq_append, spl_snoc]
    unfold splS
    by_cases h : c = 10
    · simp [h]
    · simp [h]
theorem linesP_len {b l : List Nat} (h : l ∈ linesP b) : l.length ≤ b.length := by
  unfold linesP at h
  split at h
  · exact (row_len 10 b).1 l h
  · exact split_row_len h
theorem linesP_pos {b : List Nat} (h : ¬ (spl 10 b).2 = []) : 1 ≤ (linesP b).length := by
  unfold linesP
  rw [if_neg h]
  unfold split
  simp
/-- what a calendar that has been read keeps to -/
structure COk (c : Cl09.Cal) : Prop where
  tl : c.title.length ≤ 40
  dl : c.dates.length ≤ 6
  wf : ∀ d ∈ c.dates, WF d
def readRes (l : List Nat) (t : List Nat) (rs : List (Cl09.Date × Bool)) (f : Int) : Prop := match Cl09.read l with
  | .error e => f = faultI e
  | .ok c => f = 0 ∧ t = c.title ∧ rs = c.dates.map (fun d => (d, true)) ∧ COk c
section
variable {P : Program} {w : World} {K : PySem.W.Frag} {mg : Str → Option Value} {base : Heap} {A : Ad}
def spRead (A : Ad) : Sp := fun vs H Q _ => ∃ (a : Addr) (l : List Nat) (F : Hp), vs = [.ref a] ∧ Same F H ∧ H a = some (.lst (nv l)) ∧ l.length ≤ 700 ∧
  ∀ F' H' p z t rs b f, More F H F' H' → (∀ m ∈ mutsR p z, H m = none) → ReadAt (csOf A) F' H' p z t rs b f → readRes l t rs f → Q (.ref p) H'
theorem fault_neg (e : Nat × Nat) : faultI e < 0 := by
  unfold faultI
  omega
theorem ok_read (T : Txt K mg A) : FnOk P w K mg base CX0 8 A.f_read A.d_read ["text"] (spRead A) := by
  refine T.F_read.ok sc_read (fun vs H Q E h => ?_) (fun cdv Ar outer s H vs Q E hr h => ?_)
  · obtain ⟨a, l, F, rfl, _⟩ := h
    rfl
  · obtain ⟨a, l, F, rfl, sF, ha, hl, k⟩ := h
    refine ⟨_, (pss_cons (ps_set (i := 1) sc_read.nd rfl (Or.inl rfl) (pe_make0 T.M_Reading (ok_Reading_init T) (hr.mono (by decide)) rfl T.g_Reading (b_Reading_init T) .nil pass0))
      (pss_cons (ps_set (i := 2) sc_read.nd rfl (Or.inl rfl) (pe_call (ok_put_together T) (hr.mono (by decide)) (by rfl) T.g_put_together T.F_put_together.kp (b_put_together T) .nil pass0 (pa_cons (pv 0) pa_nil)))
      (pss_cons (ps_set (i := 3) sc_read.nd rfl (Or.inl rfl) (pe_call (ok_lines_of T) (hr.mono (by decide)) (by rfl) T.g_lines_of T.F_lines_of.kp (b_lines_of T) .nil pass0 (pa_cons (pv 2) pa_nil)))
      (pss_cons (ps_fld (pv 1) (pe_call (ok_read_lines T) (hr.mono (by decide)) (by rfl) T.g_read_lines T.F_read_lines.kp (b_read_lines T) .nil pass0 (pa_cons (pv 1) (pa_cons (pv 3) pa_nil))) rfl)
      (pss_cons (ps_if (pt_cmpR op_eq (pe_fld (pv 1) rfl) pe_int (nomark _))
        (pss_one (ps_if (pt_not (pt_val (pe_call (ok_is_ended T) (hr.mono (by decide)) (by rfl) T.g_is_ended T.F_is_ended.kp (b_is_ended T) .nil pass0 (pa_cons (pv 2) pa_nil))))
          (pss_one (ps_fld (pv 1) (pe_call (ok_told_fault T) (hr.mono (by decide)) (by rfl) T.g_told_fault T.F_told_fault.kp (b_told_fault T) .nil pass0 (pa_cons (pe_op op_sub (pe_callB call_len_seq (by rfl) T.z_len PySem.boot_len (pa_cons (pv 3) pa_nil)) pe_int) (pa_cons (pe_gi T.g_NO_LINE) pa_nil))) rfl))
          (pss_one (ps_if (pt_val (pe_fld (pv 1) rfl))
            (pss_one (ps_fld (pv 1) (pe_call (ok_told_fault T) (hr.mono (by decide)) (by rfl) T.g_told_fault T.F_told_fault.kp (b_told_fault T) .nil pass0 (pa_cons (pe_callB call_len_seq (by rfl) T.z_len PySem.boot_len (pa_cons (pv 3) pa_nil)) (pa_cons (pe_gi T.g_UNFINISHED) pa_nil))) rfl))
            pss_nil))))
        pss_nil)
      (pss_one (ps_ret (pv 1)))))))), ?_⟩
    intro p dx np ndx nex
    have up : ∀ {b : Addr}, (upd (upd H dx (.own p)) p (.ins A.c_Reading dx [])) b = none → H b = none := fun {b} h => by
      have h1 : b ≠ p := fun e => by rw [e, upd_same] at h; cases h
      rw [upd_ne h1] at h
      have h2 : b ≠ dx := fun e => by rw [e, upd_same] at h; cases h
      rw [upd_ne h2] at h
      exact h
    have s0 : Same H (upd (upd H dx (.own p)) p (.ins A.c_Reading dx [])) := fun b o e => by
      rw [upd_ne (ne_of_none e np), upd_ne (ne_of_none e ndx)]
      exact e
    refine ⟨p, dx, F, rfl, upd_same, sF.trans s0, sF.free np, fun F1 H1 z R g => ⟨rfl, ?_⟩⟩
    have M1 : More F H F1 H1 := ⟨fun b o e => g.hh b o (s0 _ _ e) (fun y => ne_of_none e np (mem_one y)), g.ff, fun b hb => g.fn b (same_tr s0 hb), g.sm⟩
    have fr1 : ∀ m ∈ mutsR p z, H m = none := fun m hm => by
      rcases g.mm m hm with h | h
      · rw [mem_one h]; exact np
      · exact up h
    refine ⟨_, rfl, a, l, rfl, M1.hh _ _ ha, by omega, fun H2 jo N2 => ?_⟩
    have M2 := M1.trans (More.freeze M1.sm N2.sm N2.nw N2.at_)
    have R2 := R.more (More.freeze M1.sm N2.sm N2.nw N2.at_)
    have jl := joined_len _ l (Nat.le_refl _)
    refine ⟨_, rfl, jo, Cl09.joined l, rfl, N2.at_, by omega, fun H3 la lps N3 => ?_⟩
    obtain ⟨F3, M3', rows3, F3n⟩ := More.freezeRows M2.sm N3
    have M4' := More.freeze (p := la) M2.sm N3.sm N3.nw N3.at_
    -- rows and the list of them
    have F3la : F3 la = none := by rw [F3n la N3.out]; exact M2.sm.free N3.nw
    have M4 : More (upd F1 jo (.lst (nv (Cl09.joined l)))) H2 (upd F3 la (.lst (lps.map V.ref))) H3 := by
      refine ⟨N3.sm, M3'.ff.trans (same_upd F3la), fun b hb => ?_, fun b o e => ?_⟩
      · rw [upd_ne fun y => hb (by rw [y]; exact N3.nw)]
        exact M3'.fn b hb
      · by_cases y : b = la
        · rw [y, upd_same] at e
          rw [y, ← e]
          exact N3.at_
        · rw [upd_ne y] at e
          exact M3'.sm _ _ e
    have M5 := M2.trans M4
    have R5 := R2.more M4
    have rows5 : RowsAt (upd F3 la (.lst (lps.map V.ref))) lps (linesP (Cl09.joined l)) := rows3.same (same_upd F3la)
    have lpl := N3.rows.len
    have O0 : RR ⟨⟨[], []⟩, none⟩ [] [] false := .inl ⟨rfl, ⟨rfl, rfl, by decide, rfl, by decide, fun q hq => nomatch hq⟩⟩
    refine ⟨_, rfl, _, rfl, p, la, lps, z, [], [], false, 0, _, ⟨⟨[], []⟩, none⟩, linesP (Cl09.joined l), rfl, R5, O0, upd_same, rows5, fun x hx => Nat.le_trans (linesP_len hx) (by omega), fun F6 H6 z6 t6 rs6 b6 kk g6 R6 res => ?_⟩
    have G6 := Grow.after M5 g6
    have hla : H6 la = some (.lst (lps.map V.ref)) := g6.sm _ _ (g6.ff _ _ upd_same)
    have hjo : H6 jo = some (.lst (nv (Cl09.joined l))) := g6.sm _ _ (g6.ff _ _ (M4.ff _ _ upd_same))
    refine ⟨_, rfl, p, _, _, _, rfl, R6.ins, T.C_Reading, T.n_Reading_fault, rFs_len _ _ _, ?_⟩
    rw [put_fault]
    have X7 := ReadAt.own (b' := b6) (f' := kk) R6
    generalize hH7 : upd H6 p (.ins (csOf A).R z6.dx (rFs (.ref z6.c) (.bl b6) (.int kk))) = H7
    have X7' : ReadAt (csOf A) F6 H7 p z6 t6 rs6 b6 kk ∧ Grow (mutsR p z6) (mutsR p z6) F6 H6 F6 H7 := by rw [← hH7]; exact X7
    have GG := G6.trans X7'.2
    have hjo7 : H7 jo = some (.lst (nv (Cl09.joined l))) := GG.sm _ _ (g6.ff _ _ (M4.ff _ _ upd_same))
    have hla7 : H7 la = some (.lst (lps.map V.ref)) := GG.sm _ _ (g6.ff _ _ upd_same)
    have lo := linesOf_is (Cl09.joined l)
    have fin : ∀ F8 H8 f8, Grow (mutsR p z) (mutsR p z6) F H F8 H8 → ReadAt (csOf A) F8 H8 p z6 t6 rs6 b6 f8 → readRes l t6 rs6 f8 → Q (.ref p) H8 := fun F8 H8 f8 g8 R8 q8 => by
      refine k F8 H8 p z6 t6 rs6 b6 f8 ⟨fun b o e => g8.hh b o e fun m => ?_, g8.ff, g8.fn, g8.sm⟩ (fun m hm => ?_) R8 q8
      · have := fr1 b m
        rw [e] at this
        cases this
      · rcases g8.mm m hm with h | h
        · exact fr1 m h
        · exact h
    refine ⟨_, rfl, p, _, _, _, _, rfl, X7'.1.ins, T.C_Reading, T.n_Reading_fault, rFs_fault, rfl, _, rfl, ?_⟩
    cases er : Cl09.readAll 0 ⟨⟨[], []⟩, none⟩ (linesP (Cl09.joined l)) with
    | error e =>
      rw [er] at res
      have ek : kk = faultI e := res
      have e1 := fault_neg e
      refine if_false_of (decide_eq_false fun y => by have := V.int.inj y; omega) ?_
      refine ⟨_, rfl, fin _ _ _ GG X7'.1 ?_⟩
      unfold readRes Cl09.read
      rw [lo]
      simp only [er]
      exact ek
    | ok r' =>
      rw [er] at res
      obtain ⟨ek, O⟩ := res
      subst ek
      refine if_true_of (decide_eq_true rfl) ?_
      refine ⟨_, rfl, jo, _, rfl, hjo7, by omega, fun H8 s8 => ⟨_, rfl, ?_⟩⟩
      have R8 := X7'.1.more (More.same GG.sm s8)
      have G8 := GG.trans (Grow.more (More.same GG.sm s8))
      have hla8 := s8 _ _ hla7
      rw [ended_is]
      by_cases y : (spl 10 (Cl09.joined l)).2 = []
      · rw [decide_eq_true y]
        refine iteF ?_
        refine ⟨_, rfl, p, _, _, _, _, rfl, R8.ins, T.C_Reading, T.n_Reading_within_date, rFs_within, _, rfl, ?_⟩
        rcases O with ⟨hb, O⟩ | ⟨hb, d, had, rp, has, ers, O⟩
        · subst hb
          refine iteF ⟨_, rfl, fin _ _ _ G8 R8 ?_⟩
          unfold readRes Cl09.read
          rw [lo]
          simp only [er]
          rw [if_neg (by rw [decide_eq_true y]; decide), if_neg (by rw [O.op]; decide)]
          refine ⟨trivial, O.tt, O.ers, ⟨by rw [← O.tt]; exact O.tl, ?_, fun d hd => ?_⟩⟩
          · have := O.dl
            rw [O.ers, List.length_map] at this
            exact this
          · exact O.wf (d, true) (by rw [O.ers]; exact List.mem_map.mpr ⟨d, hd, rfl⟩)
        · subst hb
          refine iteT ?_
          refine ⟨_, rfl, la, _, rfl, .inl (SqL.of hla8), (linesP (Cl09.joined l)).length, 5, by rw [List.length_map, lpl]; rfl, ?_⟩
          refine ⟨_, rfl, p, _, _, _, rfl, R8.ins, T.C_Reading, T.n_Reading_fault, rFs_len _ _ _, ?_⟩
          rw [put_fault]
          have X9 := ReadAt.own (b' := true) (f' := faultI ((linesP (Cl09.joined l)).length, 5)) R8
          refine ⟨_, rfl, fin _ _ _ (G8.trans X9.2) X9.1 ?_⟩
          unfold readRes Cl09.read
          rw [lo]
          simp only [er]
          rw [if_neg (by rw [decide_eq_true y]; decide), if_pos (by rw [O.op]; rfl)]
      · rw [decide_eq_false y]
        refine iteT ?_
        have lp := linesP_pos y
        refine ⟨_, rfl, la, _, rfl, .inl (SqL.of hla8), _, _, rfl, rfl, (linesP (Cl09.joined l)).length - 1, 1, ?_, ?_⟩
        · rw [List.length_map, lpl]
          show [V.int (((linesP (Cl09.joined l)).length : Int) - 1), V.int 1] = [V.int (((linesP (Cl09.joined l)).length - 1 : Nat) : Int), V.int ((1 : Nat) : Int)]
          rw [show ((linesP (Cl09.joined l)).length : Int) - 1 = (((linesP (Cl09.joined l)).length - 1 : Nat) : Int) by omega]
          rfl
        · refine ⟨_, rfl, p, _, _, _, rfl, R8.ins, T.C_Reading, T.n_Reading_fault, rFs_len _ _ _, ?_⟩
          rw [put_fault]
          have X9 := ReadAt.own (b' := b6) (f' := faultI ((linesP (Cl09.joined l)).length - 1, 1)) R8
          refine ⟨_, rfl, fin _ _ _ (G8.trans X9.2) X9.1 ?_⟩
          unfold readRes Cl09.read
          rw [lo]
          simp only [er]
          rw [if_pos (decide_eq_false y)]
end
end Ct

set_option Elab.async false
set_option linter.all false
set_option maxRecDepth 100000
set_option maxHeartbeats 4000000
namespace Ct
open PySem PySem.Spec PyProof.Rows L2
/-! ### texts as rows -/
theorem of_str (s : String) : (Str.ofString s).cps.toList = Cl09.ascii s := by
  have e : Str.ofString s = Str.ofStringByList s := by rw [Str.ofString_eq_byList]
  rw [e]
  unfold Str.ofStringByList Cl09.ascii
  simp
theorem dig_is (n : Nat) : (Str.ofString (toString (n : Int))).cps.toList = Cl09.digits n := of_str _
theorem dig_len {n : Nat} (h : n ≤ 9999) : (Cl09.digits n).length ≤ 4 := by
  unfold Cl09.digits Cl09.ascii
  rw [List.length_map]
  have e : (toString n : String).toList = Nat.toDigits 10 n := by
    show (Nat.repr n).toList = _
    unfold Nat.repr
    simp
  rw [e]
  exact (Nat.length_toDigits_le_iff (by decide) (by decide)).mpr (by omega)
theorem size_list (z : Str) : z.cps.size = z.cps.toList.length := by simp
/-! ### rows gathered -/
section
variable {H H1 H2 : Hp} {p q : Addr} {ps qs : List Addr} {ls ms : List (List Nat)} {l : List Nat}
theorem NewRows.later (R : NewRows H H1 p ps ls) (s : Same H1 H2) : NewRows H H2 p ps ls := ⟨R.sm.trans s, R.nw, s _ _ R.at_, R.out, R.new, R.rows.same s⟩
theorem NewRows.push (R : NewRows H H1 p ps ls) (N : NewRow H1 H2 q l) : NewRows H (upd H2 p (.lst (ps.map V.ref ++ [.ref q]))) p (ps ++ [q]) (ls ++ [l]) := by
  have qp : q ≠ p := fun e => by have := N.nw; rw [e, R.at_] at this; cases this
  have q0 : H q = none := R.sm.free N.nw
  refine ⟨same_set (R.sm.trans N.sm) R.nw, R.nw, ?_, ?_, ?_, ?_⟩
  · rw [upd_same, refs_app]
  · intro m
    rcases List.mem_append.mp m with m | m
    · exact R.out m
    · exact qp (mem_one m).symm
  · intro x hx
    rcases List.mem_append.mp hx with hx | hx
    · exact R.new x hx
    · rw [mem_one hx]; exact q0
  · refine RowsAt.snoc (R.rows.keep fun x hx o e => ?_) ?_
    · rw [upd_ne fun z => R.out (by rw [← z]; exact hx)]
      exact N.sm _ _ e
    · rw [upd_ne qp]
      exact N.at_
theorem NewRows.extend (R : NewRows H H1 p ps ls) (N : NewRows H1 H2 q qs ms) : NewRows H (upd H2 p (.lst (ps.map V.ref ++ qs.map V.ref))) p (ps ++ qs) (ls ++ ms) := by
  have qp : ∀ x ∈ qs, x ≠ p := fun x hx e => by have := N.new x hx; rw [e, R.at_] at this; cases this
  refine ⟨same_set (R.sm.trans N.sm) R.nw, R.nw, ?_, ?_, ?_, ?_⟩
  · rw [upd_same, List.map_append]
  · intro m
    rcases List.mem_append.mp m with m | m
    · exact R.out m
    · exact qp p m rfl
  · intro x hx
    rcases List.mem_append.mp hx with hx | hx
    · exact R.new x hx
    · exact R.sm.free (N.new x hx)
  · refine RowsAt.app (R.rows.keep fun x hx o e => ?_) (N.rows.keep fun x hx o e => ?_)
    · rw [upd_ne fun z => R.out (by rw [← z]; exact hx)]
      exact N.sm _ _ e
    · rw [upd_ne (qp x hx)]
      exact e
end
section
variable {P : Program} {w : World} {K : PySem.W.Frag} {mg : Str → Option Value} {base : Heap} {A : Ad}
def spLineOf : Sp := fun vs H Q _ => ∃ (z : Str) (v : Addr) (l : List Nat), vs = [.str z, .ref v] ∧ z.cps.size ≤ 100 ∧ H v = some (.lst (nv l)) ∧ l.length ≤ 10000 ∧ ∀ H' p, NewRow H H' p (Cl09.line z.cps.toList l) → Q (.ref p) H'
theorem ok_line_of (T : Txt K mg A) : FnOk P w K mg base CX0 2 A.f_line_of A.d_line_of ["word", "value"] spLineOf := by
  refine T.F_line_of.ok sc_line_of (fun vs H Q E h => ?_) (fun cdv Ar outer s H vs Q E hr h => ?_)
  · obtain ⟨z, v, l, rfl, _⟩ := h
    rfl
  · obtain ⟨z, v, l, rfl, hz, hv, hl, q⟩ := h
    refine ⟨_, (pss_one (ps_ret (pe_op op_cat (pe_op op_cat (pe_call (ok_row_of T) (hr.mono (by decide)) (by rfl) T.g_row_of T.F_row_of.kp (b_row_of T) .nil pass0 (pa_cons (pv 0) pa_nil)) (pe_lst (pa_cons (pe_gi T.g_COLON) pa_nil))) (pv 1)))), ?_⟩
    have zl : z.cps.toList.length ≤ 100 := by rw [← size_list]; exact hz
    refine ⟨_, rfl, z, rfl, by omega, fun H1 p1 N1 => ?_⟩
    refine ⟨(by show 1 ≤ sizeLine; decide), fun p2 n2 => ?_⟩
    have n12 : p1 ≠ p2 := ne_of_none N1.at_ n2
    refine ⟨p1, p2, _, _, rfl, rfl, (upd_ne n12).trans N1.at_, upd_same, ?_, fun p3 n3 => ?_⟩
    · rw [nv_len]
      have := sz (n := z.cps.toList.length + 1) (by omega)
      show _ + 1 ≤ _
      omega
    have s3 : Same H (upd (upd H1 p2 (.lst [.int 58])) p3 (.lst (nv z.cps.toList ++ [.int 58]))) := N1.sm.trans ((same_upd n2).trans (same_upd n3))
    refine ⟨_, rfl, p3, v, _, _, rfl, rfl, upd_same, s3 _ _ hv, ?_, fun p4 n4 => q _ p4 ⟨s3.trans (same_upd n4), s3.free n4, ?_⟩⟩
    · rw [List.length_append, nv_len, nv_len]
      have := sz (n := z.cps.toList.length + 1 + l.length) (by omega)
      show _ + 1 + _ ≤ _
      omega
    · rw [upd_same]
      unfold Cl09.line
      rw [nv_app]
      show some (HO.lst (nv z.cps.toList ++ [.int 58] ++ nv l)) = some (HO.lst (nv z.cps.toList ++ (.int 58 :: nv l)))
      rw [List.append_assoc]
      rfl
def tailC (l : List (List Nat)) : List Nat := l.flatMap fun x => 44 :: x
theorem commas_is : ∀ (w : List Nat) (l : List (List Nat)), Cl09.commas (w :: l) = w ++ tailC l
  | w, [] => by simp [Cl09.commas, tailC]
  | w, x :: l => by
    rw [Cl09.commas, commas_is x l]
    · simp [tailC]
    · simp
theorem tail_len : ∀ (l : List (List Nat)), (∀ x ∈ l, x.length ≤ 1000) → (tailC l).length ≤ 1001 * l.length
  | [], _ => by simp [tailC]
  | x :: l, h => by
    have ih := tail_len l fun y hy => h y (List.mem_cons_of_mem _ hy)
    have hx := h x (List.mem_cons_self ..)
    have e : tailC (x :: l) = 44 :: x ++ tailC l := by simp [tailC]
    rw [e, List.length_append, List.length_cons, List.length_cons]
    omega
theorem tail_more (l : List (List Nat)) (x : List Nat) : tailC (l ++ [x]) = tailC l ++ (44 :: x) := by simp [tailC]
def spTellTags : Sp := fun vs H Q _ => ∃ (a : Addr) (ps : List Addr) (ls : List (List Nat)), vs = [.ref a] ∧ H a = some (.lst (ps.map V.ref)) ∧ RowsAt H ps ls ∧ ls ≠ [] ∧ ls.length ≤ 100 ∧ (∀ x ∈ ls, x.length ≤ 1000) ∧ ∀ H' p, NewRow H H' p (Cl09.commas ls) → Q (.ref p) H'
theorem ok_tell_tags (T : Txt K mg A) : FnOk P w K mg base CX0 1 A.f_tell_tags A.d_tell_tags ["tags"] spTellTags := by
  refine T.F_tell_tags.ok sc_tell_tags (fun vs H Q E h => ?_) (fun cdv Ar outer s H vs Q E hr h => ?_)
  · obtain ⟨a, ps, ls, rfl, _⟩ := h
    rfl
  · obtain ⟨a, ps, ls, rfl, ha, rows, hne, hl, hx, q⟩ := h
    refine ⟨_, (pss_cons (ps_set (i := 1) sc_tell_tags.nd rfl (Or.inl rfl) (pe_callTy call_list_of (by rfl) T.z_list (by decide +kernel) (pa_cons (pe_ix ix_list (pv 0) pe_int (fun _ _ => rfl)) pa_nil)))
      (pss_cons (ps_for PassesOwn.never rfl (pi_list (pe_slice sl_list (pv 0) (po_some pe_int) po_none)) (pg_name (i := 2) sc_tell_tags.nd rfl (Or.inl rfl))
        (pss_cons (ps_expr (pe_bm PySem.F.plainAttrs_list PySem.F.slot_list_append PySem.F.type_list_append mt_append (pv 1) (pa_cons (pe_gi T.g_COMMA) pa_nil)))
        (pss_one (ps_expr (pe_bm PySem.F.plainAttrs_list PySem.F.slot_list_extend PySem.F.type_list_extend mt_extend (pv 1) (pa_cons (pv 2) pa_nil))))))
      (pss_one (ps_ret (pv 1))))), ?_⟩
    obtain ⟨w0, ws, rfl⟩ : ∃ w ws, ls = w :: ws := by
      cases ls with
      | nil => exact absurd rfl hne
      | cons w ws => exact ⟨w, ws, rfl⟩
    obtain ⟨b, bs, rfl⟩ : ∃ b bs, ps = b :: bs := by
      cases ps with
      | nil => exact rows.elim
      | cons b bs => exact ⟨b, bs, rfl⟩
    have wl := hx w0 (List.mem_cons_self ..)
    have tl := tail_len ws fun y hy => hx y (List.mem_cons_of_mem _ hy)
    have bl := RowsAt.len rows.2
    rw [List.length_cons] at hl
    refine ⟨_, rfl, a, _, 0, .ref b, rfl, rfl, SqL.of ha, atI_nat (j := 0) rfl, b, _, rfl, .inl (SqL.of rows.1), fun o no => ?_⟩
    have R0 : NewRow H (upd H o (.lst (nv w0))) o w0 := ⟨same_upd no, no, upd_same⟩
    refine ⟨_, rfl, 1, rfl, a, _, rfl, SqL.of (R0.sm _ _ ha), fun c nc => ?_⟩
    have ec : cutV ((b :: bs).map V.ref) (some 1) none = bs.map V.ref := (cut_from ((b :: bs).map V.ref) 1).trans rfl
    have R1 : NewRow H (upd (upd H o (.lst (nv w0))) c (.lst (cutV ((b :: bs).map V.ref) (some 1) none))) o w0 := ⟨R0.sm.trans (same_upd nc), no, same_upd nc _ _ R0.at_⟩
    have nco : c ≠ o := fun e => by rw [e, upd_same] at nc; cases nc
    have c0 : H c = none := R0.sm.free nc
    have hc : (upd (upd H o (.lst (nv w0))) c (.lst (cutV ((b :: bs).map V.ref) (some 1) none))) c = some (.lst (bs.map V.ref)) := by rw [upd_same, ec]
    refine ⟨c, rfl, ⟨_, SqL.of hc⟩, for_list (K := K) (a := c) (xs := bs.map V.ref) (fun i σ H' => ∃ v, σ = [some (.ref a), some (.ref o), v] ∧ H' c = some (.lst (bs.map V.ref)) ∧ NewRow H H' o (w0 ++ tailC (ws.take i)))
      ⟨none, rfl, hc, by simpa [tailC] using R1⟩ (fun i σ H' _ ⟨_, _, hc, _⟩ => SqL.of hc) ?_ ?_⟩
    · rintro i x σ H' hxi ⟨v, rfl, hc', R⟩
      obtain ⟨d, hd, rfl⟩ := refs_get hxi
      obtain ⟨t, ht, hdt⟩ := RowsAt.get rows.2 hd
      have til := tail_len (ws.take i) fun y hy => hx y (List.mem_cons_of_mem _ (List.mem_of_mem_take hy))
      have ltk : (ws.take i).length ≤ ws.length := by rw [List.length_take]; omega
      have tlen := hx t (List.mem_cons_of_mem _ (List.mem_of_getElem? ht))
      refine ⟨_, rfl, .inl ⟨rfl, _, SqL.of R.at_⟩, o, _, _, rfl, rfl, R.at_, ?_, ?_⟩
      · rw [nv_len, List.length_append]
        exact sz (by omega)
      have R2 : NewRow H (upd H' o (.lst (nv (w0 ++ tailC (ws.take i)) ++ [.int 44]))) o (w0 ++ tailC (ws.take i) ++ [44]) := ⟨same_set R.sm no, no, by rw [upd_same, nv_app _ [44]]; rfl⟩
      have ndo : d ≠ o := ne_of_none hdt no
      refine ⟨_, rfl, .inl ⟨rfl, _, SqL.of R2.at_⟩, _, rfl, o, d, _, _, rfl, rfl, R2.at_, R2.sm _ _ hdt, ?_, ?_⟩
      · rw [nv_len, nv_len, List.length_append, List.length_append]
        have := sz (n := w0.length + (tailC (ws.take i)).length + 1 + t.length) (by omega)
        show _ + _ + 1 + _ ≤ _
        omega
      · refine ⟨_, rfl, ?_, ⟨same_set R2.sm no, no, ?_⟩⟩
        · rw [upd_ne nco, upd_ne nco]
          exact hc'
        · rw [upd_same, ← nv_app, take_more ht, tail_more]
          simp
    · rintro σ H' ⟨v, rfl, hc', R⟩
      refine ⟨_, rfl, q _ o ?_⟩
      rw [List.length_map, bl, List.take_length] at R
      rw [commas_is]
      exact R
end
end Ct

set_option Elab.async false
set_option linter.all false
namespace Ct
open PySem PySem.Spec PyProof.Rows L2
/-- a block whose head may go two ways: a word W in the middle joins them -/
def tMid (a b : TS) : TS := fun E s h => ∃ W : L2.St → Hp → Prop, a { E with nx := W } s h ∧ ∀ s' h', W s' h' → b E s' h'
theorem pss_mid {X : Cx} {c : Stmt} {cs : List Stmt} {a b : TS} (ha : PS X c a) (hb : PSs X cs b) : PSs X (c :: cs) (tMid a b) := by
  constructor
  intro pins s σ H E I q
  rcases q with ⟨W, q1, q2⟩
  apply wpAny_execs_cons
  apply thn (ha.run pins s σ H { E with nx := W } I q1)
  intro f s1 r
  cases f with
  | next =>
    rcases r with ⟨σ1, H1, I1, r1⟩
    exact hb.run pins s1 σ1 H1 E I1 (q2 σ1 H1 r1)
  | ret v => exact r
  | brk => exact r
  | cont => exact r
end Ct

set_option Elab.async false
set_option linter.all false
set_option maxRecDepth 100000
set_option maxHeartbeats 4000000
namespace Ct
open PySem PySem.Spec PyProof.Rows L2
/-! ### the lines of a date -/
theorem line_len (a b : List Nat) : (Cl09.line a b).length = a.length + 1 + b.length := by
  unfold Cl09.line
  rw [List.length_append, List.length_cons]
  omega
theorem time_len (d m : Nat) : (Cl09.timeTold d m).length = 16 := by
  unfold Cl09.timeTold
  simp [fixed_len]
theorem commas_len {ls : List (List Nat)} (h1 : ls.length ≤ 5) (h2 : ∀ t ∈ ls, t.length ≤ 8) : (Cl09.commas ls).length ≤ 6000 := by
  cases ls with
  | nil => simp [Cl09.commas]
  | cons w l =>
    rw [commas_is, List.length_append]
    have := tail_len l fun y hy => Nat.le_trans (h2 y (List.mem_cons_of_mem _ hy)) (by decide)
    have := h2 w (List.mem_cons_self ..)
    rw [List.length_cons] at h1
    omega
theorem dateLines_ok {r : Cl09.Date} (W : WF r) : (Cl09.dateLines r).length ≤ 12 ∧ ∀ l ∈ Cl09.dateLines r, l.length ≤ 8000 := by
  have wr := W.rl
  have we := W.el
  have a1 : (Cl09.ascii "begin:date").length = 10 := by decide +kernel
  have a2 : (Cl09.ascii "end:date").length = 8 := by decide +kernel
  have a3 : (Cl09.ascii "name").length = 4 := by decide +kernel
  have a4 : (Cl09.ascii "at").length = 2 := by decide +kernel
  have a5 : (Cl09.ascii "long").length = 4 := by decide +kernel
  have a6 : (Cl09.ascii "ring").length = 4 := by decide +kernel
  have a7 : (Cl09.ascii "tag").length = 3 := by decide +kernel
  have tn := told_len r.name
  have wn := W.nm
  have cl := commas_len W.tl W.tb
  have dl := dig_len W.lg
  unfold Cl09.dateLines
  constructor
  · simp only [List.length_append, List.length_map, List.length_singleton]
    have i1 : (if r.name = [] then ([] : List (List Nat)) else [Cl09.line (Cl09.ascii "name") (Cl09.told r.name)]).length ≤ 1 := by split <;> simp
    have i2 : (if r.long = 0 then ([] : List (List Nat)) else [Cl09.line (Cl09.ascii "long") (Cl09.digits r.long)]).length ≤ 1 := by split <;> simp
    have i3 : (if r.tags = [] then ([] : List (List Nat)) else [Cl09.line (Cl09.ascii "tag") (Cl09.commas r.tags)]).length ≤ 1 := by split <;> simp
    omega
  · intro l hl
    simp only [List.mem_append, List.mem_map, List.mem_singleton] at hl
    rcases hl with rfl | hl | rfl | hl | ⟨n, hn, rfl⟩ | hl | ⟨e, he, rfl⟩ | rfl
    · omega
    · split at hl
      · cases hl
      · rw [List.mem_singleton.mp hl, line_len]
        omega
    · rw [line_len, time_len]
      omega
    · split at hl
      · cases hl
      · rw [List.mem_singleton.mp hl, line_len]
        omega
    · have := dig_len (W.rb n hn)
      rw [line_len]
      omega
    · split at hl
      · cases hl
      · rw [List.mem_singleton.mp hl, line_len]
        omega
    · have := W.eb e he
      rw [line_len]
      omega
    · omega
/-- the parts of a date's lines, as they come -/
def dl2 (r : Cl09.Date) : List (List Nat) := [Cl09.ascii "begin:date"] ++ (if r.name = [] then [] else [Cl09.line (Cl09.ascii "name") (Cl09.told r.name)])
def dl3 (r : Cl09.Date) : List (List Nat) := dl2 r ++ [Cl09.line (Cl09.ascii "at") (Cl09.timeTold r.day r.minute)]
def dl4 (r : Cl09.Date) : List (List Nat) := dl3 r ++ (if r.long = 0 then [] else [Cl09.line (Cl09.ascii "long") (Cl09.digits r.long)])
def dl5 (r : Cl09.Date) (i : Nat) : List (List Nat) := dl4 r ++ (r.rings.take i).map fun n => Cl09.line (Cl09.ascii "ring") (Cl09.digits n)
def dl6 (r : Cl09.Date) : List (List Nat) := dl5 r r.rings.length ++ (if r.tags = [] then [] else [Cl09.line (Cl09.ascii "tag") (Cl09.commas r.tags)])
def dl7 (r : Cl09.Date) (i : Nat) : List (List Nat) := dl6 r ++ (r.extra.take i).map fun e => Cl09.line e.1 e.2
theorem dl_all (r : Cl09.Date) : dl7 r r.extra.length ++ [Cl09.ascii "end:date"] = Cl09.dateLines r := by
  unfold dl7 dl6 dl5 dl4 dl3 dl2 Cl09.dateLines
  rw [List.take_length, List.take_length]
  simp only [List.append_assoc]
theorem dl_len (r : Cl09.Date) (h1 : r.rings.length ≤ 3) (h2 : r.extra.length ≤ 3) : (dl2 r).length ≤ 2 ∧ (dl3 r).length ≤ 3 ∧ (dl4 r).length ≤ 4 ∧ (∀ i, (dl5 r i).length ≤ 7) ∧ (dl6 r).length ≤ 8 ∧ ∀ i, (dl7 r i).length ≤ 11 := by
  have a : (dl2 r).length ≤ 2 := by
    unfold dl2
    split <;> simp
  have b : (dl3 r).length ≤ 3 := by
    unfold dl3
    simp
    omega
  have c : (dl4 r).length ≤ 4 := by
    unfold dl4
    split <;> simp <;> omega
  have d : ∀ i, (dl5 r i).length ≤ 7 := fun i => by
    unfold dl5
    simp
    omega
  have e : (dl6 r).length ≤ 8 := by
    have := d r.rings.length
    unfold dl6
    split <;> simp <;> omega
  refine ⟨a, b, c, d, e, fun i => ?_⟩
  unfold dl7
  simp
  omega
section
variable {P : Program} {w : World} {K : PySem.W.Frag} {mg : Str → Option Value} {base : Heap} {A : Ad}
def spDateLines (C : Addr) : Sp := fun vs H Q _ => ∃ (d : Addr) (x : DA) (r : Cl09.Date) (F : Hp), vs = [.ref d] ∧ Same F H ∧ DateAt C F H d x r true ∧ WF r ∧ ∀ H' p ps, NewRows H H' p ps (Cl09.dateLines r) → Q (.ref p) H'
theorem ok_date_lines (T : Txt K mg A) : FnOk P w K mg base CX0 4 A.f_date_lines A.d_date_lines ["date"] (spDateLines A.c_Date) := by
  refine T.F_date_lines.ok sc_date_lines (fun vs H Q E h => ?_) (fun cdv Ar outer s H vs Q E hr h => ?_)
  · obtain ⟨d, x, r, F, rfl, _⟩ := h
    rfl
  · obtain ⟨d, x, r, F, rfl, sF, D, W, k⟩ := h
    refine ⟨_, (pss_cons (ps_set (i := 1) sc_date_lines.nd rfl (Or.inl rfl) (pe_lst (pa_cons (pe_call (ok_line_of T) (hr.mono (by decide)) (by rfl) T.g_line_of T.F_line_of.kp (b_line_of T) .nil pass0 (pa_cons pe_str (pa_cons (pe_call (ok_row_of T) (hr.mono (by decide)) (by rfl) T.g_row_of T.F_row_of.kp (b_row_of T) .nil pass0 (pa_cons pe_str pa_nil)) pa_nil))) pa_nil)))
      (pss_mid (ps_if (pt_cmpR op_gt (pe_callB call_len_seq (by rfl) T.z_len PySem.boot_len (pa_cons (pe_fld (pv 0) rfl) pa_nil)) pe_int (nomark _))
        (pss_one (ps_expr (pe_bm PySem.F.plainAttrs_list PySem.F.slot_list_append PySem.F.type_list_append mt_append (pv 1) (pa_cons (pe_call (ok_line_of T) (hr.mono (by decide)) (by rfl) T.g_line_of T.F_line_of.kp (b_line_of T) .nil pass0 (pa_cons pe_str (pa_cons (pe_call (ok_tell_name T) (hr.mono (by decide)) (by rfl) T.g_tell_name T.F_tell_name.kp (b_tell_name T) .nil pass0 (pa_cons (pe_fld (pv 0) rfl) pa_nil)) pa_nil))) pa_nil))))
        pss_nil)
      (pss_cons (ps_expr (pe_bm PySem.F.plainAttrs_list PySem.F.slot_list_append PySem.F.type_list_append mt_append (pv 1) (pa_cons (pe_call (ok_line_of T) (hr.mono (by decide)) (by rfl) T.g_line_of T.F_line_of.kp (b_line_of T) .nil pass0 (pa_cons pe_str (pa_cons (pe_call (ok_tell_time T) (hr.mono (by decide)) (by rfl) T.g_tell_time T.F_tell_time.kp (b_tell_time T) .nil pass0 (pa_cons (pe_fld (pv 0) rfl) (pa_cons (pe_fld (pv 0) rfl) pa_nil))) pa_nil))) pa_nil)))
      (pss_mid (ps_if (pt_cmpR op_gt (pe_fld (pv 0) rfl) pe_int (nomark _))
        (pss_one (ps_expr (pe_bm PySem.F.plainAttrs_list PySem.F.slot_list_append PySem.F.type_list_append mt_append (pv 1) (pa_cons (pe_call (ok_line_of T) (hr.mono (by decide)) (by rfl) T.g_line_of T.F_line_of.kp (b_line_of T) .nil pass0 (pa_cons pe_str (pa_cons (pe_call (ok_row_of T) (hr.mono (by decide)) (by rfl) T.g_row_of T.F_row_of.kp (b_row_of T) .nil pass0 (pa_cons (pe_callTy call_str_int (by rfl) T.z_str (by decide +kernel) (pa_cons (pe_fld (pv 0) rfl) pa_nil)) pa_nil)) pa_nil))) pa_nil))))
        pss_nil)
      (pss_cons (ps_for PassesOwn.never rfl (pi_list (pe_fld (pv 0) rfl)) (pg_name (i := 2) sc_date_lines.nd rfl (Or.inl rfl))
        (pss_one (ps_expr (pe_bm PySem.F.plainAttrs_list PySem.F.slot_list_append PySem.F.type_list_append mt_append (pv 1) (pa_cons (pe_call (ok_line_of T) (hr.mono (by decide)) (by rfl) T.g_line_of T.F_line_of.kp (b_line_of T) .nil pass0 (pa_cons pe_str (pa_cons (pe_call (ok_row_of T) (hr.mono (by decide)) (by rfl) T.g_row_of T.F_row_of.kp (b_row_of T) .nil pass0 (pa_cons (pe_callTy call_str_int (by rfl) T.z_str (by decide +kernel) (pa_cons (pv 2) pa_nil)) pa_nil)) pa_nil))) pa_nil)))))
      (pss_mid (ps_if (pt_cmpR op_gt (pe_callB call_len_seq (by rfl) T.z_len PySem.boot_len (pa_cons (pe_fld (pv 0) rfl) pa_nil)) pe_int (nomark _))
        (pss_one (ps_expr (pe_bm PySem.F.plainAttrs_list PySem.F.slot_list_append PySem.F.type_list_append mt_append (pv 1) (pa_cons (pe_call (ok_line_of T) (hr.mono (by decide)) (by rfl) T.g_line_of T.F_line_of.kp (b_line_of T) .nil pass0 (pa_cons pe_str (pa_cons (pe_call (ok_tell_tags T) (hr.mono (by decide)) (by rfl) T.g_tell_tags T.F_tell_tags.kp (b_tell_tags T) .nil pass0 (pa_cons (pe_fld (pv 0) rfl) pa_nil)) pa_nil))) pa_nil))))
        pss_nil)
      (pss_cons (ps_for PassesOwn.never rfl (pi_list (pe_fld (pv 0) rfl)) (pg_name (i := 3) sc_date_lines.nd rfl (Or.inl rfl))
        (pss_one (ps_expr (pe_bm PySem.F.plainAttrs_list PySem.F.slot_list_append PySem.F.type_list_append mt_append (pv 1) (pa_cons (pe_op op_cat (pe_op op_cat (pe_ix ix_tup (pv 3) pe_int (fun _ _ => rfl)) (pe_lst (pa_cons (pe_gi T.g_COLON) pa_nil))) (pe_ix ix_tup (pv 3) pe_int (fun _ _ => rfl))) pa_nil)))))
      (pss_cons (ps_expr (pe_bm PySem.F.plainAttrs_list PySem.F.slot_list_append PySem.F.type_list_append mt_append (pv 1) (pa_cons (pe_call (ok_line_of T) (hr.mono (by decide)) (by rfl) T.g_line_of T.F_line_of.kp (b_line_of T) .nil pass0 (pa_cons pe_str (pa_cons (pe_call (ok_row_of T) (hr.mono (by decide)) (by rfl) T.g_row_of T.F_row_of.kp (b_row_of T) .nil pass0 (pa_cons pe_str pa_nil)) pa_nil))) pa_nil)))
      (pss_one (ps_ret (pv 1))))))))))), ?_⟩
    have L := dl_len r W.rl W.el
    have wn := W.nm
    have tn := told_len r.name
    have e1 : Cl09.line (Str.ofString "begin").cps.toList (Str.ofString "date").cps.toList = Cl09.ascii "begin:date" := by decide +kernel
    have e2 : Cl09.line (Str.ofString "end").cps.toList (Str.ofString "date").cps.toList = Cl09.ascii "end:date" := by decide +kernel
    have ps_ : ∀ {H1 : Hp} {p : Addr} {ps : List Addr} {ls : List (List Nat)}, NewRows H H1 p ps ls → ls.length ≤ 11 → ps.length < sizeLine := fun N h => sz (by rw [N.rows.len]; omega)
    -- lines = [line_of('begin', row_of('date'))]
    refine ⟨"date", rfl, by decide +kernel, fun H1 p1 N1 => ?_⟩
    refine ⟨"begin", p1, _, rfl, by decide +kernel, N1.at_, by decide +kernel, fun H2 p2 N2 => ?_⟩
    refine ⟨(by show 1 ≤ sizeLine; decide), fun p n => ?_⟩
    have s2 := N1.sm.trans N2.sm
    have p20 : H p2 = none := N1.sm.free N2.nw
    have n2p : p2 ≠ p := ne_of_none N2.at_ n
    have R1 : NewRows H (upd H2 p (.lst [.ref p2])) p [p2] [Cl09.ascii "begin:date"] := ⟨s2.trans (same_upd n), s2.free n, upd_same, fun m => n2p (mem_one m).symm, fun q hq => by rw [mem_one hq]; exact p20, ⟨by rw [upd_ne n2p, N2.at_, e1], trivial⟩⟩
    have D1 := D.more (More.same sF R1.sm)
    -- if len(date.name) > 0
    refine ⟨fun σ' H' => ∃ ps, σ' = [some (.ref d), some (.ref p), none, none] ∧ NewRows H H' p ps (dl2 r), ?_, ?_⟩
    · refine ⟨_, rfl, d, _, _, _, _, rfl, D1.ins, T.C_Date, T.n_Date_name, dFs_name, x.nm, _, rfl, .inl (SqL.of ((sF.trans R1.sm) _ _ D.nm)), _, _, rfl, rfl, _, rfl, ite2 (fun c => ?_) (fun c => ?_)⟩
      · have c1 := of_decide_eq_true c
        rw [nv_len] at c1
        have ne : ¬ r.name = [] := fun y => by rw [y] at c1; exact absurd c1 (by decide)
        refine ⟨_, rfl, .inl ⟨rfl, _, SqL.of R1.at_⟩, _, rfl, d, _, _, _, _, rfl, D1.ins, T.C_Date, T.n_Date_name, dFs_name, x.nm, r.name, rfl, (sF.trans R1.sm) _ _ D.nm, by omega, fun H3 p3 N3 => ?_⟩
        refine ⟨"name", p3, _, rfl, by decide +kernel, N3.at_, by omega, fun H4 p4 N4 => ?_⟩
        have R4 := R1.later N3.sm
        refine ⟨p, _, _, rfl, rfl, (R4.later N4.sm).at_, by rw [List.length_map]; exact ps_ R4 (by simp), ?_⟩
        have Z := R4.push N4
        have e : [Cl09.ascii "begin:date"] ++ [Cl09.line (Str.ofString "name").cps.toList (Cl09.told r.name)] = dl2 r := by
          unfold dl2
          rw [if_neg ne, a_name]
        rw [e] at Z
        exact ⟨_, rfl, Z⟩
      · have c1 : ¬ (0 : Int) < ((nv r.name).length : Int) := fun y => c (decide_eq_true y)
        rw [nv_len] at c1
        have ne : r.name = [] := List.eq_nil_of_length_eq_zero (by omega)
        have e : [Cl09.ascii "begin:date"] = dl2 r := by
          unfold dl2
          rw [if_pos ne]
          rfl
        have Z := R1
        rw [e] at Z
        exact ⟨_, rfl, Z⟩
    rintro _ H3 ⟨ps3, rfl, R3⟩
    have D3 := D.more (More.same sF R3.sm)
    -- lines.append(line_of('at', tell_time(date.day, date.minute)))
    refine ⟨_, rfl, .inl ⟨rfl, _, SqL.of R3.at_⟩, _, rfl, d, _, _, _, _, rfl, D3.ins, T.C_Date, T.n_Date_day, dFs_day, _, rfl, d, _, _, _, _, rfl, D3.ins, T.C_Date, T.n_Date_minute, dFs_minute, r.day, r.minute, rfl, W.dy, W.mi, fun H4 p4 N4 => ?_⟩
    refine ⟨"at", p4, _, rfl, by decide +kernel, N4.at_, by rw [time_len]; decide, fun H5 p5 N5 => ?_⟩
    have R4 := R3.later N4.sm
    refine ⟨p, _, _, rfl, rfl, (R4.later N5.sm).at_, by rw [List.length_map]; exact ps_ R4 (by omega), ?_⟩
    have R5 := R4.push N5
    have e5 : dl2 r ++ [Cl09.line (Str.ofString "at").cps.toList (Cl09.timeTold r.day r.minute)] = dl3 r := by rw [a_at]; rfl
    rw [e5] at R5
    generalize (upd H5 p (.lst (ps3.map V.ref ++ [.ref p5]))) = H6 at R5 ⊢
    have D6 := D.more (More.same sF R5.sm)
    -- if date.length > 0
    refine ⟨fun σ' H' => ∃ ps, σ' = [some (.ref d), some (.ref p), none, none] ∧ NewRows H H' p ps (dl4 r), ?_, ?_⟩
    · refine ⟨_, rfl, d, _, _, _, _, rfl, D6.ins, T.C_Date, T.n_Date_length, dFs_length, _, _, rfl, rfl, _, rfl, ite2 (fun c => ?_) (fun c => ?_)⟩
      · have c1 := of_decide_eq_true c
        have ne : ¬ r.long = 0 := by omega
        have dll := dig_len W.lg
        refine ⟨_, rfl, .inl ⟨rfl, _, SqL.of R5.at_⟩, _, rfl, d, _, _, _, _, rfl, D6.ins, T.C_Date, T.n_Date_length, dFs_length, _, rfl, log_small (by have := W.lg; omega), _, rfl, ?_, fun H7 p7 N7 => ?_⟩
        · rw [size_list, dig_is]
          omega
        rw [dig_is] at N7
        refine ⟨"long", p7, _, rfl, by decide +kernel, N7.at_, by omega, fun H8 p8 N8 => ?_⟩
        have R7 := R5.later N7.sm
        refine ⟨p, _, _, rfl, rfl, (R7.later N8.sm).at_, by rw [List.length_map]; exact ps_ R7 (by omega), ?_⟩
        have Z := R7.push N8
        have e : dl3 r ++ [Cl09.line (Str.ofString "long").cps.toList (Cl09.digits r.long)] = dl4 r := by
          unfold dl4
          rw [if_neg ne, a_long]
        rw [e] at Z
        exact ⟨_, rfl, Z⟩
      · have c1 : ¬ (0 : Int) < (r.long : Int) := fun y => c (decide_eq_true y)
        have e : dl3 r = dl4 r := by
          unfold dl4
          rw [if_pos (by omega)]
          simp
        have Z := R5
        rw [e] at Z
        exact ⟨_, rfl, Z⟩
    rintro _ H7 ⟨ps7, rfl, R7⟩
    have D7 := D.more (More.same sF R7.sm)
    -- for ring in date.rings
    refine ⟨_, rfl, d, _, _, _, _, rfl, D7.ins, T.C_Date, T.n_Date_rings, dFs_rings, x.rg, rfl, ⟨_, SqL.of D7.rg⟩, for_list (K := K) (a := x.rg) (xs := nv r.rings) (fun i σ' H' => ∃ ps v, σ' = [some (.ref d), some (.ref p), v, none] ∧ NewRows H H' p ps (dl5 r i))
      ⟨ps7, none, rfl, by unfold dl5; simpa using R7⟩ (fun i σ' H' _ ⟨_, _, _, R⟩ => SqL.of (R.sm _ _ D.rg)) ?_ ?_⟩
    · rintro i y σ' H8 hy ⟨ps8, v, rfl, R8⟩
      obtain ⟨n, hn, rfl⟩ := nv_get hy
      have nl := W.rb n (List.mem_of_getElem? hn)
      have dll := dig_len nl
      refine ⟨_, rfl, .inl ⟨rfl, _, SqL.of R8.at_⟩, _, rfl, _, rfl, log_small (by omega), _, rfl, ?_, fun H9 p9 N9 => ?_⟩
      · rw [size_list, dig_is]
        omega
      rw [dig_is] at N9
      refine ⟨"ring", p9, _, rfl, by decide +kernel, N9.at_, by omega, fun H10 p10 N10 => ?_⟩
      have R9 := R8.later N9.sm
      refine ⟨p, _, _, rfl, rfl, (R9.later N10.sm).at_, by rw [List.length_map]; exact ps_ R9 (by have := L.2.2.2.1 i; omega), ?_⟩
      have Z := R9.push N10
      have e : dl5 r i ++ [Cl09.line (Str.ofString "ring").cps.toList (Cl09.digits n)] = dl5 r (i + 1) := by
        unfold dl5
        rw [take_more hn, List.map_append, a_ring, List.append_assoc]
        rfl
      rw [e] at Z
      exact ⟨_, _, rfl, Z⟩
    rintro _ H8 ⟨ps8, v8, rfl, R8⟩
    rw [nv_len] at R8
    have D8 := D.more (More.same sF R8.sm)
    have tpl := D.tgr.len
    -- if len(date.tags) > 0
    refine ⟨fun σ' H' => ∃ ps, σ' = [some (.ref d), some (.ref p), v8, none] ∧ NewRows H H' p ps (dl6 r), ?_, ?_⟩
    · refine ⟨_, rfl, d, _, _, _, _, rfl, D8.ins, T.C_Date, T.n_Date_tags, dFs_tags, x.tg, _, rfl, .inl (SqL.of D8.tg), _, _, rfl, rfl, _, rfl, ite2 (fun c => ?_) (fun c => ?_)⟩
      · have c1 := of_decide_eq_true c
        rw [List.length_map, tpl] at c1
        have ne : ¬ r.tags = [] := fun y => by rw [y] at c1; exact absurd c1 (by decide)
        have cl := commas_len W.tl W.tb
        have wtl := W.tl
        refine ⟨_, rfl, .inl ⟨rfl, _, SqL.of R8.at_⟩, _, rfl, d, _, _, _, _, rfl, D8.ins, T.C_Date, T.n_Date_tags, dFs_tags, x.tg, x.tps, r.tags, rfl, D8.tg, D.tgr.same (sF.trans R8.sm), ne, by omega, fun t ht => Nat.le_trans (W.tb t ht) (by decide), fun H9 p9 N9 => ?_⟩
        refine ⟨"tag", p9, _, rfl, by decide +kernel, N9.at_, by omega, fun H10 p10 N10 => ?_⟩
        have R9 := R8.later N9.sm
        refine ⟨p, _, _, rfl, rfl, (R9.later N10.sm).at_, by rw [List.length_map]; exact ps_ R9 (by have := L.2.2.2.1 r.rings.length; omega), ?_⟩
        have Z := R9.push N10
        have e : dl5 r r.rings.length ++ [Cl09.line (Str.ofString "tag").cps.toList (Cl09.commas r.tags)] = dl6 r := by
          unfold dl6
          rw [if_neg ne, a_tag]
        rw [e] at Z
        exact ⟨_, rfl, Z⟩
      · have c1 : ¬ (0 : Int) < ((x.tps.map V.ref).length : Int) := fun y => c (decide_eq_true y)
        rw [List.length_map, tpl] at c1
        have ne : r.tags = [] := List.eq_nil_of_length_eq_zero (by omega)
        have e : dl5 r r.rings.length = dl6 r := by
          unfold dl6
          rw [if_pos ne]
          simp
        have Z := R8
        rw [e] at Z
        exact ⟨_, rfl, Z⟩
    rintro _ H9 ⟨ps9, rfl, R9⟩
    have D9 := D.more (More.same sF R9.sm)
    have opl := D.otr.len
    -- for other in date.others
    refine ⟨_, rfl, d, _, _, _, _, rfl, D9.ins, T.C_Date, T.n_Date_others, dFs_others, x.ot, rfl, ⟨_, SqL.of D9.ot⟩, for_list (K := K) (a := x.ot) (xs := x.ops.map fun o => V.ref o.1) (fun i σ' H' => ∃ ps v, σ' = [some (.ref d), some (.ref p), v8, v] ∧ NewRows H H' p ps (dl7 r i))
      ⟨ps9, none, rfl, by unfold dl7; simpa using R9⟩ (fun i σ' H' _ ⟨_, _, _, R⟩ => SqL.of (R.sm _ _ D.ot)) ?_ ?_⟩
    · rintro i y σ' H10 hy ⟨ps10, v, rfl, R10⟩
      obtain ⟨o, ho, rfl⟩ : ∃ o, x.ops[i]? = some o ∧ y = .ref o.1 := by
        rw [List.getElem?_map] at hy
        cases e : x.ops[i]? with
        | none => rw [e] at hy; cases hy
        | some o => rw [e] at hy; exact ⟨o, rfl, (Option.some.inj hy).symm⟩
      obtain ⟨e, he, ht, ha, hb⟩ := OthersAt.get D.otr ho
      have el := W.eb e (List.mem_of_getElem? he)
      have sm := sF.trans R10.sm
      have hT := SqT.of (K := K) (sm _ _ ht)
      refine ⟨_, rfl, .inl ⟨rfl, _, SqL.of R10.at_⟩, _, rfl, o.1, _, 0, .ref o.2.1, rfl, rfl, hT, atI_nat (j := 0) rfl, (by show 1 ≤ sizeLine; decide), fun q1 n1 => ?_⟩
      have s1 := same_upd (o := .lst [.int 58]) n1
      refine ⟨o.2.1, q1, _, _, rfl, rfl, s1 _ _ (sm _ _ ha), upd_same, ?_, fun q2 n2 => ?_⟩
      · rw [nv_len]
        have := sz (n := e.1.length + 1) (by omega)
        show _ + 1 ≤ _
        omega
      have s2 := s1.trans (same_upd (o := .lst (nv e.1 ++ [.int 58])) n2)
      refine ⟨_, rfl, o.1, _, 1, .ref o.2.2, rfl, rfl, SqT.of (s2 _ _ (sm _ _ ht)), atI_nat (j := 1) rfl, q2, o.2.2, _, _, rfl, rfl, upd_same, s2 _ _ (sm _ _ hb), ?_, fun q3 n3 => ?_⟩
      · rw [List.length_append, nv_len, nv_len]
        have := sz (n := e.1.length + 1 + e.2.length) (by omega)
        show _ + 1 + _ ≤ _
        omega
      have s3 := s2.trans (same_upd (o := .lst (nv e.1 ++ [.int 58] ++ nv e.2)) n3)
      have N3 : NewRow H10 (upd (upd (upd H10 q1 (.lst [.int 58])) q2 (.lst (nv e.1 ++ [.int 58]))) q3 (.lst (nv e.1 ++ [.int 58] ++ nv e.2))) q3 (Cl09.line e.1 e.2) := by
        refine ⟨s3, s2.free n3, ?_⟩
        rw [upd_same]
        unfold Cl09.line
        rw [nv_app, List.append_assoc]
        rfl
      refine ⟨p, _, _, rfl, rfl, (R10.later s3).at_, by rw [List.length_map]; exact ps_ R10 (by have := L.2.2.2.2.2 i; omega), ?_⟩
      have Z := R10.push N3
      have e7 : dl7 r i ++ [Cl09.line e.1 e.2] = dl7 r (i + 1) := by
        unfold dl7
        rw [take_more he, List.map_append, List.append_assoc]
        rfl
      rw [e7] at Z
      exact ⟨_, _, rfl, Z⟩
    rintro _ H10 ⟨ps10, v10, rfl, R10⟩
    rw [List.length_map, opl] at R10
    -- lines.append(line_of('end', row_of('date')))
    refine ⟨_, rfl, .inl ⟨rfl, _, SqL.of R10.at_⟩, "date", rfl, by decide +kernel, fun H11 p11 N11 => ?_⟩
    refine ⟨"end", p11, _, rfl, by decide +kernel, N11.at_, by decide +kernel, fun H12 p12 N12 => ?_⟩
    have R11 := R10.later N11.sm
    refine ⟨p, _, _, rfl, rfl, (R11.later N12.sm).at_, by rw [List.length_map]; exact ps_ R11 (L.2.2.2.2.2 _), ?_⟩
    have Z := R11.push N12
    rw [e2, dl_all] at Z
    exact ⟨_, rfl, k _ _ _ Z⟩
end
end Ct

set_option Elab.async false
set_option linter.all false
set_option maxRecDepth 100000
set_option maxHeartbeats 4000000
namespace Ct
open PySem PySem.Spec PyProof.Rows L2
def calL (t : List Nat) (ds : List Cl09.Date) : List (List Nat) := (if t = [] then [] else [Cl09.line (Cl09.ascii "title") (Cl09.told t)]) ++ ds.flatMap Cl09.dateLines
structure CalOk (t : List Nat) (rs : List (Cl09.Date × Bool)) : Prop where
  tl : t.length ≤ 40
  dl : rs.length ≤ 6
  wf : ∀ q ∈ rs, WF q.1
  al : ∀ q ∈ rs, q.2 = true
theorem flat_len : ∀ (ds : List Cl09.Date), (∀ d ∈ ds, WF d) → (ds.flatMap Cl09.dateLines).length ≤ 12 * ds.length ∧ ∀ l ∈ ds.flatMap Cl09.dateLines, l.length ≤ 8000
  | [], _ => by simp
  | d :: r, h => by
    have ih := flat_len r fun x hx => h x (List.mem_cons_of_mem _ hx)
    have q := dateLines_ok (h d (List.mem_cons_self ..))
    rw [List.flatMap_cons]
    refine ⟨by rw [List.length_append, List.length_cons]; omega, fun l hl => ?_⟩
    rcases List.mem_append.mp hl with hl | hl
    · exact q.2 l hl
    · exact ih.2 l hl
theorem calL_ok {t : List Nat} {ds : List Cl09.Date} (h1 : t.length ≤ 40) (h2 : ds.length ≤ 6) (h3 : ∀ d ∈ ds, WF d) : (calL t ds).length ≤ 73 ∧ ∀ l ∈ calL t ds, l.length ≤ 8000 := by
  have q := flat_len ds h3
  have a : (Cl09.ascii "title").length = 5 := by decide +kernel
  have tn := told_len t
  unfold calL
  constructor
  · rw [List.length_append]
    have : (if t = [] then ([] : List (List Nat)) else [Cl09.line (Cl09.ascii "title") (Cl09.told t)]).length ≤ 1 := by split <;> simp
    omega
  · intro l hl
    rcases List.mem_append.mp hl with hl | hl
    · split at hl
      · cases hl
      · rw [List.mem_singleton.mp hl, line_len]
        omega
    · exact q.2 l hl
theorem das_get {das : List (Addr × DA)} {i : Nat} {v : V} (h : (das.map fun p => V.ref p.1)[i]? = some v) : ∃ p, das[i]? = some p ∧ v = .ref p.1 := by
  rw [List.getElem?_map] at h
  cases e : das[i]? with
  | none => rw [e] at h; cases h
  | some p => rw [e] at h; exact ⟨p, rfl, (Option.some.inj h).symm⟩
theorem DatesAt.at {C : Addr} {F H : Hp} : ∀ {as : List (Addr × DA)} {rs : List (Cl09.Date × Bool)} {i : Nat} {p : Addr × DA}, DatesAt C F H as rs → as[i]? = some p → ∃ q, rs[i]? = some q ∧ DateAt C F H p.1 p.2 q.1 q.2
  | [], [], _, _, _, h => by simp at h
  | a :: r, x :: s, 0, p, h, e => ⟨x, rfl, by have : a = p := Option.some.inj e; rw [← this]; exact h.1⟩
  | a :: r, x :: s, i + 1, p, h, e => DatesAt.at (as := r) (rs := s) (i := i) h.2 e
  | [], _ :: _, _, _, h, _ => h.elim
  | _ :: _, [], _, _, h, _ => h.elim
section
variable {P : Program} {w : World} {K : PySem.W.Frag} {mg : Str → Option Value} {base : Heap} {A : Ad}
def spCalLines (A : Ad) : Sp := fun vs H Q _ => ∃ (c : Addr) (y : CA) (t : List Nat) (rs : List (Cl09.Date × Bool)) (F : Hp), vs = [.ref c] ∧ CalAt A.c_Calendar A.c_Date F H c y t rs ∧ CalOk t rs ∧ ∀ H' p ps, NewRows H H' p ps (calL t (rs.map (·.1))) → Q (.ref p) H'
theorem ok_calendar_lines (T : Txt K mg A) : FnOk P w K mg base CX0 5 A.f_calendar_lines A.d_calendar_lines ["calendar"] (spCalLines A) := by
  refine T.F_calendar_lines.ok sc_calendar_lines (fun vs H Q E h => ?_) (fun cdv Ar outer s H vs Q E hr h => ?_)
  · obtain ⟨c, y, t, rs, F, rfl, _⟩ := h
    rfl
  · obtain ⟨c, y, t, rs, F, rfl, CA0, O, k⟩ := h
    refine ⟨_, (pss_cons (ps_set (i := 1) sc_calendar_lines.nd rfl (Or.inl rfl) (pe_lst pa_nil))
      (pss_mid (ps_if (pt_cmpR op_gt (pe_callB call_len_seq (by rfl) T.z_len PySem.boot_len (pa_cons (pe_fld (pv 0) rfl) pa_nil)) pe_int (nomark _))
        (pss_one (ps_expr (pe_bm PySem.F.plainAttrs_list PySem.F.slot_list_append PySem.F.type_list_append mt_append (pv 1) (pa_cons (pe_call (ok_line_of T) (hr.mono (by decide)) (by rfl) T.g_line_of T.F_line_of.kp (b_line_of T) .nil pass0 (pa_cons pe_str (pa_cons (pe_call (ok_tell_name T) (hr.mono (by decide)) (by rfl) T.g_tell_name T.F_tell_name.kp (b_tell_name T) .nil pass0 (pa_cons (pe_fld (pv 0) rfl) pa_nil)) pa_nil))) pa_nil))))
        pss_nil)
      (pss_cons (ps_for PassesOwn.never rfl (pi_list (pe_fld (pv 0) rfl)) (pg_name (i := 2) sc_calendar_lines.nd rfl (Or.inl rfl))
        (pss_one (ps_expr (pe_bm PySem.F.plainAttrs_list PySem.F.slot_list_extend PySem.F.type_list_extend mt_extend (pv 1) (pa_cons (pe_call (ok_date_lines T) (hr.mono (by decide)) (by rfl) T.g_date_lines T.F_date_lines.kp (b_date_lines T) .nil pass0 (pa_cons (pv 2) pa_nil)) pa_nil)))))
      (pss_one (ps_ret (pv 1)))))), ?_⟩
    have sF := CA0.sm
    have dl := CA0.dates.len
    have tn := told_len t
    have otl := O.tl
    have wfd : ∀ d ∈ rs.map (·.1), WF d := fun d hd => by
      obtain ⟨q, hq, rfl⟩ := List.mem_map.mp hd
      exact O.wf q hq
    refine ⟨Nat.zero_le _, fun p np => ?_⟩
    have R0 : NewRows H (upd H p (.lst [])) p [] [] := ⟨same_upd np, np, upd_same, by simp, by simp, trivial⟩
    have CA1 := CA0.more (More.same sF R0.sm)
    refine ⟨fun σ' H' => ∃ ps, σ' = [some (.ref c), some (.ref p), none] ∧ NewRows H H' p ps (if t = [] then [] else [Cl09.line (Cl09.ascii "title") (Cl09.told t)]), ?_, ?_⟩
    · refine ⟨_, rfl, c, _, _, _, _, rfl, CA1.ins, T.C_Calendar, T.n_Calendar_title, cFs_title, y.tt, _, rfl, .inl (SqL.of (CA1.sm _ _ CA1.tt)), _, _, rfl, rfl, _, rfl, ite2 (fun z => ?_) (fun z => ?_)⟩
      · have z1 := of_decide_eq_true z
        rw [nv_len] at z1
        have ne : ¬ t = [] := fun e => by rw [e] at z1; exact absurd z1 (by decide)
        refine ⟨_, rfl, .inl ⟨rfl, _, SqL.of R0.at_⟩, _, rfl, c, _, _, _, _, rfl, CA1.ins, T.C_Calendar, T.n_Calendar_title, cFs_title, y.tt, t, rfl, CA1.sm _ _ CA1.tt, by omega, fun H3 p3 N3 => ?_⟩
        refine ⟨"title", p3, _, rfl, by decide +kernel, N3.at_, by omega, fun H4 p4 N4 => ?_⟩
        have R4 := R0.later N3.sm
        refine ⟨p, _, _, rfl, rfl, (R4.later N4.sm).at_, by decide, ?_⟩
        have Z := R4.push N4
        rw [a_title] at Z
        rw [if_neg ne]
        exact ⟨_, rfl, Z⟩
      · have z1 : ¬ (0 : Int) < ((nv t).length : Int) := fun e => z (decide_eq_true e)
        rw [nv_len] at z1
        have ne : t = [] := List.eq_nil_of_length_eq_zero (by omega)
        rw [if_pos ne]
        exact ⟨_, rfl, R0⟩
    rintro _ H2 ⟨ps2, rfl, R2⟩
    have CA2 := CA0.more (More.same sF R2.sm)
    have bound : ∀ i, ((if t = [] then ([] : List (List Nat)) else [Cl09.line (Cl09.ascii "title") (Cl09.told t)]) ++ ((rs.map (·.1)).take i).flatMap Cl09.dateLines).length ≤ 73 := fun i => by
      have q := calL_ok (ds := (rs.map (·.1)).take i) O.tl (by rw [List.length_take, List.length_map]; have := O.dl; omega) (fun d hd => wfd d (List.mem_of_mem_take hd))
      exact q.1
    refine ⟨_, rfl, c, _, _, _, _, rfl, CA2.ins, T.C_Calendar, T.n_Calendar_dates, cFs_dates, y.ds, rfl, ⟨_, SqL.of CA2.ds⟩, for_list (K := K) (a := y.ds) (xs := y.das.map fun p => V.ref p.1) (fun i σ' H' => ∃ ps v, σ' = [some (.ref c), some (.ref p), v] ∧ NewRows H H' p ps ((if t = [] then [] else [Cl09.line (Cl09.ascii "title") (Cl09.told t)]) ++ ((rs.map (·.1)).take i).flatMap Cl09.dateLines))
      ⟨ps2, none, rfl, by simpa using R2⟩ (fun i σ' H' _ ⟨_, _, _, R⟩ => SqL.of (R.sm _ _ CA0.ds)) ?_ ?_⟩
    · rintro i v σ' H3 hv ⟨ps3, u, rfl, R3⟩
      obtain ⟨⟨da, x⟩, hp, rfl⟩ := das_get hv
      obtain ⟨⟨r, has⟩, hq, D⟩ := DatesAt.at CA0.dates hp
      have mq := List.mem_of_getElem? hq
      have hh : has = true := O.al _ mq
      subst hh
      have M3 := More.same sF R3.sm
      refine ⟨_, rfl, .inl ⟨rfl, _, SqL.of R3.at_⟩, _, rfl, da, x, r, F, rfl, M3.sm, D.more M3, O.wf _ mq, fun H4 p4 ps4 N4 => ?_⟩
      have l3 := R3.rows.len
      have l4 := N4.rows.len
      have b3 := bound i
      have b4 : (Cl09.dateLines r).length ≤ 12 := (dateLines_ok (O.wf _ mq)).1
      refine ⟨p, p4, _, _, rfl, rfl, (R3.later N4.sm).at_, N4.at_, ?_, ?_⟩
      · rw [List.length_map, List.length_map]
        have := sz (n := ps3.length + ps4.length) (by omega)
        omega
      · have Z := R3.extend N4
        have hr : (rs.map (·.1))[i]? = some r := by rw [List.getElem?_map, hq]; rfl
        have e : ((rs.map (·.1)).take (i + 1)).flatMap Cl09.dateLines = ((rs.map (·.1)).take i).flatMap Cl09.dateLines ++ Cl09.dateLines r := by
          rw [take_more hr, List.flatMap_append]
          simp
        rw [List.append_assoc, ← e] at Z
        exact ⟨_, _, rfl, Z⟩
    · rintro _ H3 ⟨ps3, v, rfl, R3⟩
      refine ⟨_, rfl, k _ p ps3 ?_⟩
      have e : (rs.map (·.1)).take (y.das.map fun p => V.ref p.1).length = rs.map (·.1) := by
        rw [List.length_map, dl, ← List.length_map (as := rs) (f := fun q : Cl09.Date × Bool => q.1), List.take_length]
      rw [e] at R3
      exact R3
theorem text_is (t : List Nat) (ds : List Cl09.Date) : Cl09.text ⟨t, ds⟩ = (calL t ds).flatMap fun l => Cl09.cut l ++ [10] := rfl
theorem flat_cut : ∀ (ls : List (List Nat)), (∀ l ∈ ls, l.length ≤ 8000) → (ls.flatMap fun l => Cl09.cut l ++ [10]).length ≤ 24001 * ls.length
  | [], _ => by simp
  | l :: r, h => by
    have ih := flat_cut r fun x hx => h x (List.mem_cons_of_mem _ hx)
    have q := cut_len l
    have hl := h l (List.mem_cons_self ..)
    rw [List.flatMap_cons, List.length_append, List.length_append, List.length_singleton, List.length_cons]
    omega
def spTell (A : Ad) : Sp := fun vs H Q _ => ∃ (c : Addr) (y : CA) (t : List Nat) (rs : List (Cl09.Date × Bool)) (F : Hp), vs = [.ref c] ∧ CalAt A.c_Calendar A.c_Date F H c y t rs ∧ CalOk t rs ∧ ∀ H' p, NewRow H H' p (Cl09.text ⟨t, rs.map (·.1)⟩) → Q (.ref p) H'
theorem ok_tell (T : Txt K mg A) : FnOk P w K mg base CX0 6 A.f_tell A.d_tell ["calendar"] (spTell A) := by
  refine T.F_tell.ok sc_tell (fun vs H Q E h => ?_) (fun cdv Ar outer s H vs Q E hr h => ?_)
  · obtain ⟨c, y, t, rs, F, rfl, _⟩ := h
    rfl
  · obtain ⟨c, y, t, rs, F, rfl, CA0, O, k⟩ := h
    refine ⟨_, (pss_cons (ps_set (i := 1) sc_tell.nd rfl (Or.inl rfl) (pe_lst pa_nil))
      (pss_cons (ps_for PassesOwn.never rfl (pi_list (pe_call (ok_calendar_lines T) (hr.mono (by decide)) (by rfl) T.g_calendar_lines T.F_calendar_lines.kp (b_calendar_lines T) .nil pass0 (pa_cons (pv 0) pa_nil))) (pg_name (i := 2) sc_tell.nd rfl (Or.inl rfl))
        (pss_cons (ps_expr (pe_bm PySem.F.plainAttrs_list PySem.F.slot_list_extend PySem.F.type_list_extend mt_extend (pv 1) (pa_cons (pe_call (ok_cut_line T) (hr.mono (by decide)) (by rfl) T.g_cut_line T.F_cut_line.kp (b_cut_line T) .nil pass0 (pa_cons (pv 2) pa_nil)) pa_nil)))
        (pss_one (ps_expr (pe_bm PySem.F.plainAttrs_list PySem.F.slot_list_append PySem.F.type_list_append mt_append (pv 1) (pa_cons (pe_gi T.g_NEWLINE) pa_nil))))))
      (pss_one (ps_ret (pv 1))))), ?_⟩
    have sF := CA0.sm
    have wfd : ∀ d ∈ rs.map (·.1), WF d := fun d hd => by
      obtain ⟨q, hq, rfl⟩ := List.mem_map.mp hd
      exact O.wf q hq
    have cl := calL_ok O.tl (by rw [List.length_map]; exact O.dl) wfd
    refine ⟨Nat.zero_le _, fun o no => ?_⟩
    have R0 : NewRow H (upd H o (.lst [])) o [] := ⟨same_upd no, no, upd_same⟩
    refine ⟨_, rfl, c, y, t, rs, F, rfl, CA0.more (More.same sF R0.sm), O, fun H2 p ps N => ?_⟩
    have pl := N.rows.len
    have p0 : H p = none := R0.sm.free N.nw
    have npo : p ≠ o := fun e => by have := N.nw; rw [e, upd_same] at this; cases this
    have ho2 : H2 o = some (.lst (nv [])) := N.sm _ _ R0.at_
    have apart : ∀ q ∈ ps, q ≠ o := fun q hq e => by have := N.new q hq; rw [e, upd_same] at this; cases this
    refine ⟨p, rfl, ⟨_, SqL.of N.at_⟩, for_list (K := K) (a := p) (xs := ps.map V.ref) (fun i σ' H' => ∃ v, σ' = [some (.ref c), some (.ref o), v] ∧ H' p = some (.lst (ps.map V.ref)) ∧ RowsAt H' ps (calL t (rs.map (·.1))) ∧ NewRow H H' o (((calL t (rs.map (·.1))).take i).flatMap fun l => Cl09.cut l ++ [10]))
      ⟨none, rfl, N.at_, N.rows, ⟨R0.sm.trans N.sm, no, by simpa using ho2⟩⟩ (fun i σ' H' _ ⟨_, _, hp, _⟩ => SqL.of hp) ?_ ?_⟩
    · rintro i v σ' H3 hv ⟨u, rfl, hp3, rows3, R3⟩
      obtain ⟨b, hb, rfl⟩ := refs_get hv
      obtain ⟨l, hl, hbl⟩ := RowsAt.get rows3 hb
      have ml := List.mem_of_getElem? hl
      have ll := cl.2 l ml
      have fl := flat_cut ((calL t (rs.map (·.1))).take i) fun x hx => cl.2 x (List.mem_of_mem_take hx)
      have tkl : ((calL t (rs.map (·.1))).take i).length ≤ 73 := by rw [List.length_take]; have := cl.1; omega
      have cll := cut_len l
      refine ⟨_, rfl, .inl ⟨rfl, _, SqL.of R3.at_⟩, _, rfl, b, l, rfl, hbl, by omega, fun H4 q4 N4 => ?_⟩
      refine ⟨o, q4, _, _, rfl, rfl, N4.sm _ _ R3.at_, N4.at_, ?_, ?_⟩
      · rw [nv_len, nv_len]
        have := sz (n := (((calL t (rs.map (·.1))).take i).flatMap fun l => Cl09.cut l ++ [10]).length + (Cl09.cut l).length) (by omega)
        omega
      have R4 : NewRow H (upd H4 o (.lst (nv (((calL t (rs.map (·.1))).take i).flatMap fun l => Cl09.cut l ++ [10]) ++ nv (Cl09.cut l)))) o ((((calL t (rs.map (·.1))).take i).flatMap fun l => Cl09.cut l ++ [10]) ++ Cl09.cut l) :=
        ⟨same_set (R3.sm.trans N4.sm) no, no, by rw [upd_same, nv_app]⟩
      refine ⟨_, rfl, .inl ⟨rfl, _, SqL.of R4.at_⟩, o, _, _, rfl, rfl, R4.at_, ?_, ?_⟩
      · rw [nv_len, List.length_append]
        exact sz (by omega)
      · refine ⟨_, rfl, ?_, ?_, ⟨same_set R4.sm no, no, ?_⟩⟩
        · rw [upd_ne npo, upd_ne npo]
          exact N4.sm _ _ hp3
        · refine rows3.keep fun q hq ob e => ?_
          rw [upd_ne (apart q hq), upd_ne (apart q hq)]
          exact N4.sm _ _ e
        · rw [upd_same, take_more hl, List.flatMap_append]
          have e : ∀ x : List Nat, nv (x ++ Cl09.cut l) ++ [V.int 10] = nv (x ++ (Cl09.cut l ++ [10])) := fun x => by
            rw [← List.append_assoc, nv_app (x ++ Cl09.cut l) [10]]
            rfl
          rw [e]
          simp
    · rintro _ H3 ⟨v, rfl, hp3, rows3, R3⟩
      rw [List.length_map, pl, List.take_length] at R3
      exact ⟨_, rfl, k _ o R3⟩
end
end Ct

set_option Elab.async false
set_option linter.all false
set_option maxRecDepth 100000
set_option maxHeartbeats 4000000
/-! list.remove where items are data of any depth. -/
namespace Ct
open PySem PySem.Spec PyProof.Rows L2
def rRemD (K : PySem.W.Frag) : V → List V → Hp → VK → Prop := fun x xs H Q => ∃ (l : Addr) (vs : List V) (y : V) (d : PyData) (ds : List PyData) (j : Nat) (z : PyData), x = .ref l ∧ xs = [y] ∧ H l = some (.lst vs) ∧ DpAll K H vs ds ∧ Dp K H y d ∧
  SeqAt.shaped (.list ds) = true ∧ SeqAt.shaped d = true ∧ ds[j]? = some z ∧ PyData.eqv z d = true ∧ (∀ (m : Nat) (u : PyData), m < j → ds[m]? = some u → PyData.eqv u d = false) ∧ Q .non (upd H l (.lst (vs.eraseIdx j)))
theorem mt_removeD {X : Cx} (room : X.A.units + 65 < cLine) : MtM X "list.remove" (rRemD X.K) := by
  intro pins s σ H x xs v us Q I rx rxs h
  obtain ⟨l, vs, y, d, ds, j, z, rfl, rfl, hH, hall, hy, sl, sd, hz, hit, hno, q⟩ := h
  cases rx
  obtain ⟨uy, rfl, ry⟩ := rxs.one
  obtain ⟨bs, r1⟩ := Dp.reads I d y uy hy ry
  have lay : PyData.canLayAll0 ds = true := SeqAt.canLay_of_shaped sl
  have rm : X.A.units + 1 + min (PyData.depthAll ds) d.depth < cLine := room_in_shaped sd room
  obtain ⟨sz, its, n, rv, hl, he⟩ := I.lstM hH
  obtain ⟨as, h4⟩ := Dp.readsAll I ds _ its hall rv
  have hn : its.length = ds.length := SeqAt.ReadsAll.length ds its as h4
  have hmap : its.map (SeqAt.readOf s.heap) = ds := SeqAt.readsAll_map ds its as lay h4
  have jd : j < ds.length := (List.getElem?_eq_some_iff.mp hz).1
  have jl : j < its.toArray.size := by
    rw [List.size_toArray]
    omega
  have at_ : ∀ (m : Nat) (hm : m < its.toArray.size) (u : PyData), ds[m]? = some u → SeqAt.readOf s.heap its.toArray[m] = u := by
    intro m hm u hu
    have ml : m < its.length := by
      rw [List.size_toArray] at hm
      exact hm
    rw [← hmap, List.getElem?_map, List.getElem?_eq_getElem ml] at hu
    have e1 : SeqAt.readOf s.heap its[m] = u := Option.some.inj hu
    simpa using e1
  refine call_meets PySem.F.slot_list_remove ⟨_, he, rfl⟩ PySem.F.entry_list_remove (PySem.F.args_list_remove_2 _ _)
    (SeqAt.list_removeAt l its.toArray n none #[] uy (fun u => PyData.eqv (SeqAt.readOf s.heap u) d) j jl ?_ ?_ ?_) ⟨he, SeqAt.items_eqAt (vs := its.toArray) (show ReadsAll s.heap its.toArray.toList ds as from h4) r1 lay (SeqAt.canLay_of_shaped sd) rm, ?_⟩
  · show PyData.eqv (SeqAt.readOf s.heap its.toArray[j]) d = true
    rw [at_ j jl z hz]
    exact hit
  · intro m hm mj
    have md : m < ds.length := by omega
    have hu : ds[m]? = some ds[m] := List.getElem?_eq_getElem md
    show PyData.eqv (SeqAt.readOf s.heap its.toArray[m]) d = false
    rw [at_ m hm _ hu]
    exact hno m _ mj hu
  · rw [List.size_toArray]
    omega
  · refine ⟨.non, _, I.lset (its' := its.eraseIdx j) (t' := s.toks) hH he ?_ (rv.eraseIdx j) ?_, rfl, q⟩
    · show its.toArray.eraseIdxIfInBounds j = (its.eraseIdx j).toArray
      rw [List.eraseIdxIfInBounds_toArray]
    · have := List.length_eraseIdx_le vs j
      omega
end Ct

set_option Elab.async false
set_option linter.all false
set_option maxRecDepth 100000
set_option maxHeartbeats 4000000
namespace Ct
open PySem PySem.Spec PyProof.Rows L2
/-! ### one taken out -/
theorem erase_filter {α : Type} [BEq α] [LawfulBEq α] : ∀ {l : List α} {j : Nat} {n : α}, l.Nodup → l[j]? = some n → l.eraseIdx j = l.filter (fun m => m != n)
  | [], _, _, _, h => by simp at h
  | a :: r, 0, n, hn, h => by
    have e : a = n := Option.some.inj h
    subst e
    have q := List.nodup_cons.mp hn
    show r = _
    rw [List.filter_cons, bne_self_eq_false, if_neg Bool.false_ne_true]
    exact (List.filter_eq_self.mpr fun b hb => by
      have : b ≠ a := fun z => q.1 (z ▸ hb)
      simpa using this).symm
  | a :: r, j + 1, n, hn, h => by
    have q := List.nodup_cons.mp hn
    have h' : r[j]? = some n := h
    have ih := erase_filter q.2 h'
    have : a ≠ n := fun z => q.1 (z ▸ List.mem_of_getElem? h')
    show a :: r.eraseIdx j = _
    rw [List.filter_cons, if_pos (by simpa using this), ih]
theorem once {α : Type} {l : List α} {j m : Nat} {n : α} (hn : l.Nodup) (h : l[j]? = some n) (hm : m < j) : l[m]? ≠ some n := fun z => by
  have := nd_ix hn h z
  omega
theorem RowsAt.eraseIdx {H : Hp} : ∀ {ps : List Addr} {ls : List (List Nat)} (j : Nat), RowsAt H ps ls → RowsAt H (ps.eraseIdx j) (ls.eraseIdx j)
  | [], [], _, _ => by simp; trivial
  | _ :: _, _ :: _, 0, h => h.2
  | _ :: _, _ :: _, j + 1, h => ⟨h.1, RowsAt.eraseIdx j h.2⟩
  | [], _ :: _, _, h => h.elim
  | _ :: _, [], _, h => h.elim
theorem map_erase {α β : Type} (f : α → β) : ∀ (l : List α) (j : Nat), (l.map f).eraseIdx j = (l.eraseIdx j).map f
  | [], _ => by simp
  | _ :: _, 0 => rfl
  | a :: r, j + 1 => by
    show f a :: (r.map f).eraseIdx j = f a :: (r.eraseIdx j).map f
    rw [map_erase f r j]
theorem nodup_of_lt {l : List Nat} (h : l.Pairwise (· < ·)) : l.Nodup := h.imp fun h => by omega
/-! ### what the setters answer -/
def Post (C : Addr) (d : Addr) (x : DA) (F H : Hp) (Q : VK) (z : Int × Cl09.Date) : Prop := ∀ F' H' x', Grow (muts d x) (muts d x') F H F' H' → DateAt C F' H' d x' z.2 true → Q (.int z.1) H'
def gName (r : Cl09.Date) (l : List Nat) : Int × Cl09.Date := if Cl09.isName l = false then (-1, r) else ((r.name.length : Int), { r with name := l })
def gLong (r : Cl09.Date) (n : Nat) : Int × Cl09.Date := if 9999 < n then (-1, r) else ((r.long : Int), { r with long := n })
def gRing (r : Cl09.Date) (n : Nat) : Int × Cl09.Date := if 9999 < n then (-1, r) else if r.rings.contains n = true then (0, { r with rings := r.rings.filter fun m => m != n }) else if 3 ≤ r.rings.length then (-5, r) else (1, { r with rings := Cl09.insert n r.rings })
def gTag (r : Cl09.Date) (b : List Nat) : Int × Cl09.Date := if Cl09.isTag b = false then (-1, r) else if r.tags.contains b = true then (0, { r with tags := r.tags.filter fun t => t != b }) else if 5 ≤ r.tags.length then (-5, r) else (1, { r with tags := r.tags ++ [b] })
def gOther (r : Cl09.Date) (n v : List Nat) : Int × Cl09.Date := if Cl09.isExtra n = false ∨ Cl09.isValue v = false then (-1, r) else if 3 ≤ r.extra.length then (-5, r) else (((r.extra.length + 1 : Nat) : Int), { r with extra := r.extra ++ [(n, v)] })
section
variable {P : Program} {w : World} {K : PySem.W.Frag} {mg : Str → Option Value} {base : Heap} {A : Ad}
def spSetRow (C : Addr) (g : Cl09.Date → List Nat → Int × Cl09.Date) : Sp := fun vs H Q _ => ∃ (d v : Addr) (x : DA) (r : Cl09.Date) (F : Hp) (l : List Nat), vs = [.ref d, .ref v] ∧ Same F H ∧ DateAt C F H d x r true ∧ WF r ∧ F v = some (.lst (nv l)) ∧ l.length ≤ 1000 ∧ Post C d x F H Q (g r l)
def spSetNum (C : Addr) (g : Cl09.Date → Nat → Int × Cl09.Date) : Sp := fun vs H Q _ => ∃ (d : Addr) (n : Nat) (x : DA) (r : Cl09.Date) (F : Hp), vs = [.ref d, .int (n : Int)] ∧ Same F H ∧ DateAt C F H d x r true ∧ WF r ∧ Post C d x F H Q (g r n)
theorem ok_set_name (T : Txt K mg A) : FnOk P w K mg base CX0 3 A.f_set_name A.d_set_name ["date", "given"] (spSetRow A.c_Date gName) := by
  refine T.F_set_name.ok sc_set_name (fun vs H Q E h => ?_) (fun cdv Ar outer s H vs Q E hr h => ?_)
  · obtain ⟨d, v, x, r, F, l, rfl, _⟩ := h
    rfl
  · obtain ⟨d, v, x, r, F, l, rfl, sF, D, W, hv, hl, k⟩ := h
    refine ⟨_, (pss_cons (ps_if (pt_not (pt_val (pe_call (ok_is_name T) (hr.mono (by decide)) (by rfl) T.g_is_name T.F_is_name.kp (b_is_name T) .nil pass0 (pa_cons (pv 1) pa_nil))))
        (pss_one (ps_ret (pe_gi T.g_WRONG)))
        pss_nil)
      (pss_cons (ps_set (i := 2) sc_set_name.nd rfl (Or.inl rfl) (pe_callB call_len_seq (by rfl) T.z_len PySem.boot_len (pa_cons (pe_fld (pv 0) rfl) pa_nil)))
      (pss_cons (ps_fld (pv 0) (pe_callTy call_list_of (by rfl) T.z_list (by decide +kernel) (pa_cons (pv 1) pa_nil)) rfl)
      (pss_one (ps_ret (pv 2)))))), ?_⟩
    refine ⟨_, rfl, v, l, rfl, sF _ _ hv, by omega, fun H1 s1 => ⟨_, rfl, ?_⟩⟩
    have M1 := More.same sF s1
    have D1 := D.more M1
    cases hi : Cl09.isName l with
    | false =>
      have e : gName r l = (-1, r) := if_pos hi
      rw [e] at k
      exact iteT (k F H1 x (Grow.more M1) D1)
    | true =>
      have e : gName r l = ((r.name.length : Int), { r with name := l }) := if_neg (by rw [hi]; decide)
      rw [e] at k
      refine iteF ?_
      refine ⟨_, rfl, d, _, _, _, _, rfl, D1.ins, T.C_Date, T.n_Date_name, dFs_name, x.nm, _, rfl, .inl (SqL.of (M1.sm _ _ D.nm)), ?_⟩
      refine ⟨_, rfl, v, _, rfl, .inl (SqL.of (M1.sm _ _ hv)), fun p np => ?_⟩
      have M2 := M1.trans (More.freeze M1.sm (same_upd np) np (upd_same (H := H1) (a := p) (o := .lst (nv l))))
      have D2 := D.more M2
      refine ⟨_, rfl, d, _, _, _, rfl, D2.ins, T.C_Date, T.n_Date_name, dF_len _ _ _, ?_⟩
      have n := D.nd
      simp only [muts, List.nodup_cons, List.mem_cons, not_or, List.not_mem_nil, not_false_eq_true, List.nodup_nil, and_true] at n
      have Z := DateAt.write (has' := true) (x' := { x with nm := p }) (r' := { r with name := l }) M2 D rfl upd_same D2.rg (.inl rfl) D2.tg (.inl rfl) (D.tgr.same M2.ff) rfl rfl rfl n.2.1.1
      have ep : putF "name" (.ref p) (dF x r true) = dF { x with nm := p } { r with name := l } true := put_name
      have q := k _ _ _ Z.2 Z.1
      rw [← ep] at q
      refine ⟨_, rfl, ?_⟩
      rw [nv_len]
      exact q
theorem ok_set_length (T : Txt K mg A) : FnOk P w K mg base CX0 1 A.f_set_length A.d_set_length ["date", "length"] (spSetNum A.c_Date gLong) := by
  refine T.F_set_length.ok sc_set_length (fun vs H Q E h => ?_) (fun cdv Ar outer s H vs Q E hr h => ?_)
  · obtain ⟨d, n, x, r, F, rfl, _⟩ := h
    rfl
  · obtain ⟨d, n, x, r, F, rfl, sF, D, W, k⟩ := h
    refine ⟨_, (pss_cons (ps_if (pt_cmpR op_gt (pv 1) (pe_gi T.g_MOST_NUMBER) (nomark _))
        (pss_one (ps_ret (pe_gi T.g_WRONG)))
        pss_nil)
      (pss_cons (ps_set (i := 2) sc_set_length.nd rfl (Or.inl rfl) (pe_fld (pv 0) rfl))
      (pss_cons (ps_fld (pv 0) (pv 1) rfl)
      (pss_one (ps_ret (pv 2)))))), ?_⟩
    refine ⟨_, rfl, _, _, rfl, rfl, _, rfl, ite2 (fun c => ?_) (fun c => ?_)⟩
    · have c1 := of_decide_eq_true c
      have e : gLong r n = (-1, r) := if_pos (by omega)
      rw [e] at k
      exact k F H x (Grow.more (More.refl sF)) D
    · have c1 : ¬ (9999 : Int) < (n : Int) := fun z => c (decide_eq_true z)
      have e : gLong r n = ((r.long : Int), { r with long := n }) := if_neg (by omega)
      rw [e] at k
      refine ⟨_, rfl, d, _, _, _, _, rfl, D.ins, T.C_Date, T.n_Date_length, dFs_length, ?_⟩
      refine ⟨_, rfl, _, rfl, d, _, _, _, rfl, D.ins, T.C_Date, T.n_Date_length, dF_len _ _ _, ?_⟩
      have nn := D.nd
      simp only [muts, List.nodup_cons, List.mem_cons, not_or, List.not_mem_nil, not_false_eq_true, List.nodup_nil, and_true] at nn
      have Z := DateAt.write (has' := true) (x' := x) (r' := { r with long := n }) (More.refl sF) D rfl D.nm D.rg (.inl rfl) D.tg (.inl rfl) D.tgr rfl rfl rfl nn.2.1.1
      have ep : putF "length" (.int (n : Int)) (dF x r true) = dF x { r with long := n } true := put_length
      have q := k _ _ _ Z.2 Z.1
      rw [← ep] at q
      exact ⟨_, rfl, q⟩
theorem ok_switch_ring (T : Txt K mg A) : FnOk P w K mg base CX0 1 A.f_switch_ring A.d_switch_ring ["date", "number"] (spSetNum A.c_Date gRing) := by
  refine T.F_switch_ring.ok sc_switch_ring (fun vs H Q E h => ?_) (fun cdv Ar outer s H vs Q E hr h => ?_)
  · obtain ⟨d, n, x, r, F, rfl, _⟩ := h
    rfl
  · obtain ⟨d, n, x, r, F, rfl, sF, D, W, k⟩ := h
    refine ⟨_, (pss_cons (ps_if (pt_cmpR op_gt (pv 1) (pe_gi T.g_MOST_NUMBER) (nomark _))
        (pss_one (ps_ret (pe_gi T.g_WRONG)))
        pss_nil)
      (pss_cons (ps_if (pt_cmpR op_in_seq (pv 1) (pe_fld (pv 0) rfl) (by rfl))
        (pss_cons (ps_expr (pe_bm PySem.F.plainAttrs_list PySem.F.slot_list_remove PySem.F.type_list_remove mt_remove (pe_fld (pv 0) rfl) (pa_cons (pv 1) pa_nil)))
        (pss_one (ps_ret pe_int)))
        pss_nil)
      (pss_cons (ps_if (pt_cmpR op_ge (pe_callB call_len_seq (by rfl) T.z_len PySem.boot_len (pa_cons (pe_fld (pv 0) rfl) pa_nil)) (pe_gi T.g_MOST_RINGS) (nomark _))
        (pss_one (ps_ret (pe_gi T.g_FULL)))
        pss_nil)
      (pss_cons (ps_fld (pv 0) (pe_callB cr_sorted (by rfl) T.z_sorted (by decide +kernel) (pa_cons (pe_op op_cat (pe_fld (pv 0) rfl) (pe_lst (pa_cons (pv 1) pa_nil))) pa_nil)) rfl)
      (pss_one (ps_ret pe_int)))))), ?_⟩
    refine ⟨_, rfl, _, _, rfl, rfl, _, rfl, ite2 (fun c => ?_) (fun c => ?_)⟩
    · have c1 := of_decide_eq_true c
      have e : gRing r n = (-1, r) := if_pos (by omega)
      rw [e] at k
      exact k F H x (Grow.more (More.refl sF)) D
    have c1 : ¬ (9999 : Int) < (n : Int) := fun z => c (decide_eq_true z)
    have nn := D.nd
    simp only [muts, List.nodup_cons, List.mem_cons, not_or, List.not_mem_nil, not_false_eq_true, List.nodup_nil, and_true] at nn
    have rnd := nodup_of_lt W.rs
    refine ⟨_, rfl, _, rfl, d, _, _, _, _, rfl, D.ins, T.C_Date, T.n_Date_rings, dFs_rings, x.rg, _, rfl, .inl (SqL.of D.rg), rfl, flat_nv _, _, rfl, ?_⟩
    show if inV (.int (n : Int)) (nv r.rings) = true then _ else _
    rw [inV_nv]
    refine ite2 (fun c => ?_) (fun c => ?_)
    · have c2 := of_decide_eq_true c
      have e : gRing r n = (0, { r with rings := r.rings.filter fun m => m != n }) := (if_neg (by omega)).trans (if_pos (by simpa using c2))
      rw [e] at k
      obtain ⟨j, hj⟩ := List.getElem?_of_mem c2
      refine ⟨_, rfl, d, _, _, _, _, rfl, D.ins, T.C_Date, T.n_Date_rings, dFs_rings, .inl ⟨rfl, _, SqL.of D.rg⟩, _, rfl, x.rg, zs r.rings, (n : Int), j, rfl, rfl, by rw [zs_v]; exact D.rg, ?_, ?_, ?_⟩
      · unfold zs
        rw [List.getElem?_map, hj]
        rfl
      · intro m hm z
        unfold zs at z
        rw [List.getElem?_map] at z
        cases e2 : r.rings[m]? with
        | none => rw [e2] at z; cases z
        | some a =>
          rw [e2] at z
          have : (a : Int) = (n : Int) := Option.some.inj z
          exact once rnd hj hm (by rw [e2]; congr 1; omega)
      · have er : ((zs r.rings).eraseIdx j).map V.int = nv (r.rings.filter fun m => m != n) := by
          rw [← erase_filter rnd hj]
          unfold zs
          rw [map_erase, List.map_map]
          rfl
        rw [er]
        have Z := DateAt.poke (m := x.rg) (o := .lst (nv (r.rings.filter fun m => m != n))) (x' := x) (r' := { r with rings := r.rings.filter fun m => m != n }) (More.refl sF) D rfl rfl rfl rfl rfl rfl rfl rfl rfl rfl (.inl rfl) upd_same ((upd_ne (fun z => nn.2.1.1 z.symm)).trans D.tg) D.tgr ((upd_ne (fun z => nn.2.1.2 z.symm)).trans D.ot) D.otr
        exact k _ _ _ Z.2 Z.1
    have c2 : n ∉ r.rings := fun z => c (decide_eq_true z)
    have c2' : ¬ r.rings.contains n = true := fun z => c2 (by simpa using z)
    refine ⟨_, rfl, d, _, _, _, _, rfl, D.ins, T.C_Date, T.n_Date_rings, dFs_rings, x.rg, _, rfl, .inl (SqL.of D.rg), _, _, rfl, rfl, _, rfl, ite2 (fun c => ?_) (fun c => ?_)⟩
    · have c3 := of_decide_eq_true c
      rw [nv_len] at c3
      have e : gRing r n = (-5, r) := (if_neg (by omega)).trans ((if_neg c2').trans (if_pos (by omega)))
      rw [e] at k
      exact k F H x (Grow.more (More.refl sF)) D
    · have c3 : ¬ (3 : Int) ≤ ((nv r.rings).length : Int) := fun z => c (decide_eq_true z)
      rw [nv_len] at c3
      have e : gRing r n = (1, { r with rings := Cl09.insert n r.rings }) := (if_neg (by omega)).trans ((if_neg c2').trans (if_neg (by omega)))
      rw [e] at k
      refine ⟨_, rfl, d, _, _, _, _, rfl, D.ins, T.C_Date, T.n_Date_rings, dFs_rings, _, rfl, (by show 1 ≤ sizeLine; decide), fun q1 nq1 => ?_⟩
      have ng1 : x.rg ≠ q1 := ne_of_none D.rg nq1
      refine ⟨x.rg, q1, _, _, rfl, rfl, (upd_ne ng1).trans D.rg, upd_same, ?_, fun q2 nq2 => ?_⟩
      · rw [nv_len]
        have := sz (n := r.rings.length + 1) (by omega)
        show _ + 1 ≤ _
        omega
      refine ⟨q2, zs r.rings ++ [(n : Int)], rfl, SqL.of ?_, ?_, fun ns g hp ho ng => ?_⟩
      · rw [upd_same, List.map_append, zs_v]
        rfl
      · rw [List.length_append]
        simp [zs]
        omega
      have en := sorted_ins W.rs c2 hp ho
      have eg : ns.map V.int = nv (Cl09.insert n r.rings) := by rw [en, zs_v]
      have s2 : Same H (upd (upd H q1 (.lst [.int (n : Int)])) q2 (.lst (nv r.rings ++ [.int (n : Int)]))) := (same_upd nq1).trans (same_upd nq2)
      have s3 := s2.trans (same_upd (o := .lst (ns.map V.int)) ng)
      have M3 := More.same sF s3
      have D3 := D.more M3
      have g0 : H g = none := s2.free ng
      refine ⟨_, rfl, d, _, _, _, rfl, D3.ins, T.C_Date, T.n_Date_rings, dF_len _ _ _, ?_⟩
      have gt : g ≠ x.tg := fun z => D.trk x.tg (by simp [muts]) (by rw [← z]; exact g0)
      have Z := DateAt.write (has' := true) (x' := { x with rg := g }) (r' := { r with rings := Cl09.insert n r.rings }) M3 D rfl D.nm (by rw [upd_same, eg]) (.inr ⟨g0, sF.free g0⟩) D3.tg (.inl rfl) D.tgr rfl rfl rfl gt
      have ep : putF "rings" (.ref g) (dF x r true) = dF { x with rg := g } { r with rings := Cl09.insert n r.rings } true := put_rings
      have q := k _ _ _ Z.2 Z.1
      rw [← ep] at q
      exact q
theorem ok_switch_tag (T : Txt K mg A) : FnOk P w K mg base CX0 3 A.f_switch_tag A.d_switch_tag ["date", "given"] (spSetRow A.c_Date gTag) := by
  refine T.F_switch_tag.ok sc_switch_tag (fun vs H Q E h => ?_) (fun cdv Ar outer s H vs Q E hr h => ?_)
  · obtain ⟨d, v, x, r, F, l, rfl, _⟩ := h
    rfl
  · obtain ⟨d, v, x, r, F, l, rfl, sF, D, W, hv, hl, k⟩ := h
    refine ⟨_, (pss_cons (ps_if (pt_not (pt_val (pe_call (ok_is_tag T) (hr.mono (by decide)) (by rfl) T.g_is_tag T.F_is_tag.kp (b_is_tag T) .nil pass0 (pa_cons (pv 1) pa_nil))))
        (pss_one (ps_ret (pe_gi T.g_WRONG)))
        pss_nil)
      (pss_cons (ps_if (pt_cmpR (op_inD (hu65 hr)) (pv 1) (pe_fld (pv 0) rfl) (by rfl))
        (pss_cons (ps_expr (pe_bm PySem.F.plainAttrs_list PySem.F.slot_list_remove PySem.F.type_list_remove (mt_removeD (hu65 hr)) (pe_fld (pv 0) rfl) (pa_cons (pv 1) pa_nil)))
        (pss_one (ps_ret pe_int)))
        pss_nil)
      (pss_cons (ps_if (pt_cmpR op_ge (pe_callB call_len_seq (by rfl) T.z_len PySem.boot_len (pa_cons (pe_fld (pv 0) rfl) pa_nil)) (pe_gi T.g_MOST_TAGS) (nomark _))
        (pss_one (ps_ret (pe_gi T.g_FULL)))
        pss_nil)
      (pss_cons (ps_expr (pe_bm PySem.F.plainAttrs_list PySem.F.slot_list_append PySem.F.type_list_append mt_append (pe_fld (pv 0) rfl) (pa_cons (pe_callTy call_list_of (by rfl) T.z_list (by decide +kernel) (pa_cons (pv 1) pa_nil)) pa_nil)))
      (pss_one (ps_ret pe_int)))))), ?_⟩
    refine ⟨_, rfl, v, l, rfl, sF _ _ hv, by omega, fun H1 s1 => ⟨_, rfl, ?_⟩⟩
    have M1 := More.same sF s1
    have D1 := D.more M1
    have tpl := D.tgr.len
    have wtl := W.tl
    have nn := D.nd
    simp only [muts, List.nodup_cons, List.mem_cons, not_or, List.not_mem_nil, not_false_eq_true, List.nodup_nil, and_true] at nn
    cases hi : Cl09.isTag l with
    | false =>
      have e : gTag r l = (-1, r) := if_pos hi
      rw [e] at k
      exact iteT (k F H1 x (Grow.more M1) D1)
    | true =>
      have hi' : ¬ Cl09.isTag l = false := by rw [hi]; decide
      refine iteF ?_
      have dt : DpAll K H1 (x.tps.map V.ref) (r.tags.map dn) := dpAll_rows (D.tgr.same M1.sm)
      refine ⟨_, rfl, _, rfl, d, _, _, _, _, rfl, D1.ins, T.C_Date, T.n_Date_tags, dFs_tags, dn l, r.tags.map dn, dp_row (M1.sm _ _ hv), .lst (SqL.of D1.tg) dt, sh_row _, sh_rows _, _, rfl, ?_⟩
      rw [any_row]
      refine ite2 (fun c => ?_) (fun c => ?_)
      · have c2 := of_decide_eq_true c
        have e : gTag r l = (0, { r with tags := r.tags.filter fun t => t != l }) := (if_neg hi').trans (if_pos (by simpa using c2))
        rw [e] at k
        obtain ⟨j, hj⟩ := List.getElem?_of_mem c2
        have hj2 : (r.tags.map dn)[j]? = some (dn l) := by rw [List.getElem?_map, hj]; rfl
        refine ⟨_, rfl, d, _, _, _, _, rfl, D1.ins, T.C_Date, T.n_Date_tags, dFs_tags, .inl ⟨rfl, _, SqL.of D1.tg⟩, _, rfl, x.tg, _, _, dn l, r.tags.map dn, j, dn l, rfl, rfl, D1.tg, dt, dp_row (M1.sm _ _ hv), sh_rows _, sh_row _, hj2, by rw [eqv_row]; exact decide_eq_true rfl, ?_, ?_⟩
        · intro m u hm hu
          rw [List.getElem?_map] at hu
          cases e2 : r.tags[m]? with
          | none => rw [e2] at hu; cases hu
          | some a =>
            rw [e2] at hu
            have : dn a = u := Option.some.inj hu
            rw [← this, eqv_row]
            exact decide_eq_false fun z => once W.tn hj hm (by rw [e2, z])
        · rw [map_erase]
          have Z := DateAt.poke (m := x.tg) (o := .lst ((x.tps.eraseIdx j).map V.ref)) (x' := { x with tps := x.tps.eraseIdx j }) (r' := { r with tags := r.tags.filter fun t => t != l }) M1 D rfl rfl rfl rfl rfl rfl rfl rfl rfl rfl (.inr (.inl rfl)) ((upd_ne nn.2.1.1).trans D1.rg) upd_same
            (by rw [← erase_filter W.tn hj]; exact D.tgr.eraseIdx j) ((upd_ne (fun z => nn.2.2 z.symm)).trans D1.ot) D.otr
          exact k _ _ _ Z.2 Z.1
      have c2 : ¬ r.tags.contains l = true := fun z => c (decide_eq_true (by simpa using z))
      refine ⟨_, rfl, d, _, _, _, _, rfl, D1.ins, T.C_Date, T.n_Date_tags, dFs_tags, x.tg, _, rfl, .inl (SqL.of D1.tg), _, _, rfl, rfl, _, rfl, ite2 (fun c => ?_) (fun c => ?_)⟩
      · have c3 := of_decide_eq_true c
        rw [List.length_map, tpl] at c3
        have e : gTag r l = (-5, r) := (if_neg hi').trans ((if_neg c2).trans (if_pos (by omega)))
        rw [e] at k
        exact k F H1 x (Grow.more M1) D1
      · have c3 : ¬ (5 : Int) ≤ ((x.tps.map V.ref).length : Int) := fun z => c (decide_eq_true z)
        rw [List.length_map, tpl] at c3
        have e : gTag r l = (1, { r with tags := r.tags ++ [l] }) := (if_neg hi').trans ((if_neg c2).trans (if_neg (by omega)))
        rw [e] at k
        refine ⟨_, rfl, d, _, _, _, _, rfl, D1.ins, T.C_Date, T.n_Date_tags, dFs_tags, .inl ⟨rfl, _, SqL.of D1.tg⟩, _, rfl, v, _, rfl, .inl (SqL.of (M1.sm _ _ hv)), fun p np => ?_⟩
        have M2 := M1.trans (More.freeze M1.sm (same_upd np) np (upd_same (H := H1) (a := p) (o := .lst (nv l))))
        have D2 := D.more M2
        refine ⟨x.tg, _, _, rfl, rfl, D2.tg, by rw [List.length_map]; exact sz (by omega), ?_⟩
        have Z := DateAt.poke (m := x.tg) (o := .lst (x.tps.map V.ref ++ [.ref p])) (x' := { x with tps := x.tps ++ [p] }) (r' := { r with tags := r.tags ++ [l] }) M2 D rfl rfl rfl rfl rfl rfl rfl rfl rfl rfl (.inr (.inl rfl)) ((upd_ne nn.2.1.1).trans D2.rg) (by rw [upd_same, refs_app])
          (RowsAt.snoc (D.tgr.same M2.ff) upd_same) ((upd_ne (fun z => nn.2.2 z.symm)).trans D2.ot) (D.otr.same M2.ff)
        exact k _ _ _ Z.2 Z.1
end
end Ct

set_option Elab.async false
set_option linter.all false
set_option maxRecDepth 100000
set_option maxHeartbeats 4000000
namespace Ct
open PySem PySem.Spec PyProof.Rows L2
section
variable {P : Program} {w : World} {K : PySem.W.Frag} {mg : Str → Option Value} {base : Heap} {A : Ad}
def spAddOther (C : Addr) : Sp := fun vs H Q _ => ∃ (d a v : Addr) (x : DA) (r : Cl09.Date) (F : Hp) (n l : List Nat), vs = [.ref d, .ref a, .ref v] ∧ Same F H ∧ DateAt C F H d x r true ∧ WF r ∧ F a = some (.lst (nv n)) ∧ F v = some (.lst (nv l)) ∧ n.length ≤ 1000 ∧ l.length ≤ 1000 ∧ (∀ c ∈ l, c ≤ 255) ∧ Post C d x F H Q (gOther r n l)
theorem value_is {l : List Nat} (h : ∀ c ∈ l, c ≤ 255) : Cl09.isValue l = (decide (l.length ≤ 60) && !decide (10 ∈ l)) := by
  unfold Cl09.isValue
  congr 1
  rw [Bool.eq_iff_iff, List.all_eq_true]
  constructor
  · intro a
    have : 10 ∉ l := fun z => by have := a 10 z; simp at this
    simp [this]
  · intro a c hc
    have h10 : 10 ∉ l := by simpa using a
    have c1 : c ≠ 10 := fun z => h10 (z ▸ hc)
    have c2 := h c hc
    simp [c1, c2]
theorem ok_add_other (T : Txt K mg A) : FnOk P w K mg base CX0 4 A.f_add_other A.d_add_other ["date", "known_as", "value"] (spAddOther A.c_Date) := by
  refine T.F_add_other.ok sc_add_other (fun vs H Q E h => ?_) (fun cdv Ar outer s H vs Q E hr h => ?_)
  · obtain ⟨d, a, v, x, r, F, n, l, rfl, _⟩ := h
    rfl
  · obtain ⟨d, a, v, x, r, F, n, l, rfl, sF, D, W, ha, hv, hnl, hl, hb, k⟩ := h
    refine ⟨_, (pss_cons (ps_if (pt_not (pt_val (pe_call (ok_is_other_name T) (hr.mono (by decide)) (by rfl) T.g_is_other_name T.F_is_other_name.kp (b_is_other_name T) .nil pass0 (pa_cons (pv 1) pa_nil))))
        (pss_one (ps_ret (pe_gi T.g_WRONG)))
        pss_nil)
      (pss_cons (ps_if (PW.pt (pw_or (pt_cmpR op_gt (pe_callB call_len_seq (by rfl) T.z_len PySem.boot_len (pa_cons (pv 2) pa_nil)) (pe_gi T.g_MOST_VALUE_BYTES) (nomark _)) (pw_or1 (pt_cmpR op_in_seq (pe_gi T.g_NEWLINE) (pv 2) (by rfl)))))
        (pss_one (ps_ret (pe_gi T.g_WRONG)))
        pss_nil)
      (pss_cons (ps_if (pt_cmpR op_ge (pe_callB call_len_seq (by rfl) T.z_len PySem.boot_len (pa_cons (pe_fld (pv 0) rfl) pa_nil)) (pe_gi T.g_MOST_OTHERS) (nomark _))
        (pss_one (ps_ret (pe_gi T.g_FULL)))
        pss_nil)
      (pss_cons (ps_expr (pe_bm PySem.F.plainAttrs_list PySem.F.slot_list_append PySem.F.type_list_append mt_append (pe_fld (pv 0) rfl) (pa_cons (pe_tup (pa_cons (pe_callTy call_list_of (by rfl) T.z_list (by decide +kernel) (pa_cons (pv 1) pa_nil)) (pa_cons (pe_callTy call_list_of (by rfl) T.z_list (by decide +kernel) (pa_cons (pv 2) pa_nil)) pa_nil))) pa_nil)))
      (pss_one (ps_ret (pe_callB call_len_seq (by rfl) T.z_len PySem.boot_len (pa_cons (pe_fld (pv 0) rfl) pa_nil)))))))), ?_⟩
    have ol := D.otr.len
    have we := W.el
    refine ⟨_, rfl, a, n, rfl, sF _ _ ha, by omega, fun H1 s1 => ⟨_, rfl, ?_⟩⟩
    have M1 := More.same sF s1
    have D1 := D.more M1
    have bad : (Cl09.isExtra n = false ∨ Cl09.isValue l = false) → Q (.int (-1)) H1 := fun z => by
      have e : gOther r n l = (-1, r) := if_pos z
      rw [e] at k
      exact k F H1 x (Grow.more M1) D1
    cases hi : Cl09.isExtra n with
    | false => exact iteT (bad (.inl hi))
    | true =>
      refine iteF ?_
      have vi := value_is hb
      refine ⟨_, rfl, v, _, rfl, .inl (SqL.of (M1.sm _ _ hv)), _, _, rfl, rfl, _, rfl, ite2 (fun c => ?_) (fun c => ?_)⟩
      · have c1 := of_decide_eq_true c
        rw [nv_len] at c1
        refine iteT (bad (.inr ?_))
        rw [vi, decide_eq_false (by omega), Bool.false_and]
      have c1 : ¬ (60 : Int) < ((nv l).length : Int) := fun z => c (decide_eq_true z)
      rw [nv_len] at c1
      refine ⟨_, rfl, v, _, rfl, .inl (SqL.of (M1.sm _ _ hv)), rfl, flat_nv _, _, rfl, ?_⟩
      have iv : inV (.int 10) (nv l) = decide (10 ∈ l) := inV_nv 10 l
      show if inV (.int 10) (nv l) = true then _ else _
      rw [iv]
      refine ite2 (fun c => ?_) (fun c => ?_)
      · refine bad (.inr ?_)
        rw [vi, c]
        simp
      have c2 : 10 ∉ l := fun z => c (decide_eq_true z)
      have hv2 : Cl09.isValue l = true := by
        rw [vi, decide_eq_true (show l.length ≤ 60 by omega), decide_eq_false c2]
        rfl
      have good : ¬ (Cl09.isExtra n = false ∨ Cl09.isValue l = false) := fun z => by
        rw [hi, hv2] at z
        exact z.elim (fun y => nomatch y) (fun y => nomatch y)
      refine ⟨_, rfl, d, _, _, _, _, rfl, D1.ins, T.C_Date, T.n_Date_others, dFs_others, x.ot, _, rfl, .inl (SqL.of D1.ot), _, _, rfl, rfl, _, rfl, ite2 (fun c => ?_) (fun c => ?_)⟩
      · have c3 := of_decide_eq_true c
        rw [List.length_map, ol] at c3
        have e : gOther r n l = (-5, r) := (if_neg good).trans (if_pos (by omega))
        rw [e] at k
        exact k F H1 x (Grow.more M1) D1
      · have c3 : ¬ (3 : Int) ≤ ((x.ops.map fun o => V.ref o.1).length : Int) := fun z => c (decide_eq_true z)
        rw [List.length_map, ol] at c3
        have e : gOther r n l = (((r.extra.length + 1 : Nat) : Int), { r with extra := r.extra ++ [(n, l)] }) := (if_neg good).trans (if_neg (by omega))
        rw [e] at k
        refine ⟨_, rfl, d, _, _, _, _, rfl, D1.ins, T.C_Date, T.n_Date_others, dFs_others, .inl ⟨rfl, _, SqL.of D1.ot⟩, _, rfl, a, _, rfl, .inl (SqL.of (M1.sm _ _ ha)), fun p1 n1 => ?_⟩
        have M2 := M1.trans (More.freeze M1.sm (same_upd n1) n1 (upd_same (H := H1) (a := p1) (o := .lst (nv n))))
        refine ⟨_, rfl, v, _, rfl, .inl (SqL.of (M2.sm _ _ (M2.ff _ _ hv))), fun p2 n2 => ?_⟩
        have M3 := M2.trans (More.freeze M2.sm (same_upd n2) n2 (upd_same (a := p2) (o := .lst (nv l))))
        have n12 : p1 ≠ p2 := fun z => by rw [← z, upd_same] at n2; cases n2
        refine ⟨(by show 2 ≤ sizeLine; decide), fun t nt => ?_⟩
        have M4 := M3.trans (More.freeze M3.sm (same_upd nt) nt (upd_same (a := t) (o := .tup [.ref p1, .ref p2])))
        have D4 := D.more M4
        have t1 : p1 ≠ t := fun z => by rw [← z, upd_ne n12, upd_same] at nt; cases nt
        have t2 : p2 ≠ t := fun z => by rw [← z, upd_same] at nt; cases nt
        refine ⟨x.ot, _, _, rfl, rfl, D4.ot, by rw [List.length_map]; exact sz (by omega), ?_⟩
        have Z := DateAt.other M4 D upd_same ((upd_ne t1).trans ((upd_ne n12).trans upd_same)) ((upd_ne t2).trans upd_same)
        refine ⟨_, rfl, d, _, _, _, _, rfl, Z.1.ins, T.C_Date, T.n_Date_others, dFs_others, x.ot, _, rfl, .inl (SqL.of Z.1.ot), qi (k _ _ _ Z.2 Z.1) ?_⟩
        rw [List.length_map, List.length_append, ol]
        rfl
/-! ### a date added, a text loaded -/
def gAdd (rs : List (Cl09.Date × Bool)) (y m d t : Nat) : Int × List (Cl09.Date × Bool) :=
  if dayOk y m d = false ∨ 1440 ≤ t then (-1, rs) else if 6 ≤ rs.length then (-5, rs) else ((rs.length : Int), rs ++ [({ Cl09.blank with day := Cl01.dayOf (y - 2000) m d, minute := t }, true)])
def PostC (A : Ad) (c : Addr) (y : CA) (F H : Hp) (Q : VK) (k : Int) (t : List Nat) (rs : List (Cl09.Date × Bool)) : Prop := ∀ F' H' y', Grow (mutsC c y) (mutsC c y') F H F' H' → CalAt A.c_Calendar A.c_Date F' H' c y' t rs → Q (.int k) H'
def spAdd (A : Ad) : Sp := fun vs H Q _ => ∃ (c : Addr) (y : CA) (t : List Nat) (rs : List (Cl09.Date × Bool)) (F : Hp) (yy mm dd mi : Nat), vs = [.ref c, .int (yy : Int), .int (mm : Int), .int (dd : Int), .int (mi : Int)] ∧ CalAt A.c_Calendar A.c_Date F H c y t rs ∧ rs.length ≤ 6 ∧
  PostC A c y F H Q (gAdd rs yy mm dd mi).1 t (gAdd rs yy mm dd mi).2
theorem ok_add_date (T : Txt K mg A) : FnOk P w K mg base CX0 3 A.f_add_date A.d_add_date ["calendar", "year", "month", "day", "minute"] (spAdd A) := by
  refine T.F_add_date.ok sc_add_date (fun vs H Q E h => ?_) (fun cdv Ar outer s H vs Q E hr h => ?_)
  · obtain ⟨c, y, t, rs, F, yy, mm, dd, mi, rfl, _⟩ := h
    rfl
  · obtain ⟨c, y, t, rs, F, yy, mm, dd, mi, rfl, CA0, hrs, k⟩ := h
    refine ⟨_, (pss_cons (ps_if (PW.pt (pw_or (pt_not (pt_val (pe_call (ok_is_day T) (hr.mono (by decide)) (by rfl) T.g_is_day T.F_is_day.kp (b_is_day T) .nil pass0 (pa_cons (pv 1) (pa_cons (pv 2) (pa_cons (pv 3) pa_nil)))))) (pw_or1 (pt_not (pt_val (pe_call (ok_is_minute T) (hr.mono (by decide)) (by rfl) T.g_is_minute T.F_is_minute.kp (b_is_minute T) .nil pass0 (pa_cons (pv 4) pa_nil)))))))
        (pss_one (ps_ret (pe_gi T.g_WRONG)))
        pss_nil)
      (pss_cons (ps_if (pt_cmpR op_ge (pe_callB call_len_seq (by rfl) T.z_len PySem.boot_len (pa_cons (pe_fld (pv 0) rfl) pa_nil)) (pe_gi T.g_MOST_DATES) (nomark _))
        (pss_one (ps_ret (pe_gi T.g_FULL)))
        pss_nil)
      (pss_cons (ps_set (i := 5) sc_add_date.nd rfl (Or.inl rfl) (pe_make0 T.M_Date (ok_Date_init T) (hr.mono (by decide)) rfl T.g_Date (b_Date_init T) .nil pass0))
      (pss_cons (ps_fld (pv 5) (pe_call (ok_day_number T) (hr.mono (by decide)) (by rfl) T.g_day_number T.F_day_number.kp (b_day_number T) .nil pass0 (pa_cons (pv 1) (pa_cons (pv 2) (pa_cons (pv 3) pa_nil)))) rfl)
      (pss_cons (ps_fld (pv 5) (pv 4) rfl)
      (pss_cons (ps_expr (pe_bm PySem.F.plainAttrs_list PySem.F.slot_list_append PySem.F.type_list_append mt_append (pe_fld (pv 0) rfl) (pa_cons (pv 5) pa_nil)))
      (pss_one (ps_ret (pe_op op_sub (pe_callB call_len_seq (by rfl) T.z_len PySem.boot_len (pa_cons (pe_fld (pv 0) rfl) pa_nil)) pe_int))))))))), ?_⟩
    have sF := CA0.sm
    have dl := CA0.dates.len
    have bad : (dayOk yy mm dd = false ∨ 1440 ≤ mi) → Q (.int (-1)) H := fun z => by
      have e : gAdd rs yy mm dd mi = (-1, rs) := if_pos z
      rw [e] at k
      exact k F H y (Grow.more (More.refl sF)) CA0
    refine ⟨_, rfl, _, rfl, _, rfl, yy, mm, dd, rfl, _, rfl, ?_⟩
    cases hk : dayOk yy mm dd with
    | false => exact iteT (iteT (bad (.inl hk)))
    | true =>
      refine iteF ?_
      refine ⟨_, rfl, mi, rfl, _, rfl, ?_⟩
      by_cases hm : mi < 1440
      · have hm1 : (fun n => decide (n < 1440)) mi = true := decide_eq_true hm
        rw [hm1]
        refine iteF ?_
        have good : ¬ (dayOk yy mm dd = false ∨ 1440 ≤ mi) := fun z => by
          rw [hk] at z
          exact z.elim (fun y => nomatch y) (fun y => by omega)
        refine ⟨_, rfl, c, _, _, _, _, rfl, CA0.ins, T.C_Calendar, T.n_Calendar_dates, cFs_dates, y.ds, _, rfl, .inl (SqL.of CA0.ds), _, _, rfl, rfl, _, rfl, ite2 (fun z => ?_) (fun z => ?_)⟩
        · have z1 := of_decide_eq_true z
          rw [List.length_map, dl] at z1
          have e : gAdd rs yy mm dd mi = (-5, rs) := (if_neg good).trans (if_pos (by omega))
          rw [e] at k
          exact k F H y (Grow.more (More.refl sF)) CA0
        · have z1 : ¬ (6 : Int) ≤ ((y.das.map fun p => V.ref p.1).length : Int) := fun e => z (decide_eq_true e)
          rw [List.length_map, dl] at z1
          have e : gAdd rs yy mm dd mi = ((rs.length : Int), rs ++ [({ Cl09.blank with day := Cl01.dayOf (yy - 2000) mm dd, minute := mi }, true)]) := (if_neg good).trans (if_neg (by omega))
          rw [e] at k
          intro d dx nd ndx ne
          refine ⟨d, dx, rfl, upd_same, fun H1 x Nw => ⟨rfl, ?_⟩⟩
          obtain ⟨M1, D1, fresh⟩ := date_made sF nd ndx ne Nw
          refine ⟨_, rfl, _, rfl, _, rfl, yy, mm, dd, rfl, hk, fun H2 s2 => ?_⟩
          have M12 := More.same M1.sm s2
          have D2 := D1.more M12
          refine ⟨_, rfl, d, _, _, _, rfl, D2.ins, T.C_Date, T.n_Date_day, dF_len _ _ _, ?_⟩
          refine ⟨_, rfl, _, rfl, d, _, _, _, rfl, upd_same, T.C_Date, T.n_Date_minute, Nat.lt_of_le_of_lt (putF_le _ _ _) (by show 8 < 1000; decide), ?_⟩
          have nn := D1.nd
          simp only [muts, List.nodup_cons, List.mem_cons, not_or, List.not_mem_nil, not_false_eq_true, List.nodup_nil, and_true] at nn
          have Z := DateAt.write (has' := true) (x' := x) (r' := { Cl09.blank with day := Cl01.dayOf (yy - 2000) mm dd, minute := mi }) M12 D1 rfl D1.nm D2.rg (.inl rfl) D2.tg (.inl rfl) D1.tgr rfl rfl rfl nn.2.1.1
          have ep : putF "minute" (.int (mi : Int)) (putF "day" (.int (Cl01.dayOf (yy - 2000) mm dd : Nat)) (dF x Cl09.blank false)) = dF x { Cl09.blank with day := Cl01.dayOf (yy - 2000) mm dd, minute := mi } true := by
            have a1 : putF "day" (.int (Cl01.dayOf (yy - 2000) mm dd : Nat)) (dF x Cl09.blank false) = dFs (.int (Cl01.dayOf (yy - 2000) mm dd : Nat)) .non (.int 0) (.ref x.nm) (.ref x.rg) (.ref x.tg) (.ref x.ot) := put_day
            rw [a1, put_minute]
            rfl
          rw [upd_upd, ep]
          generalize hH4 : upd H2 d (.ins A.c_Date x.dx (dF x { Cl09.blank with day := Cl01.dayOf (yy - 2000) mm dd, minute := mi } true)) = H4
          rw [hH4] at Z
          have M4 : More F H (upd F x.nm (.lst (nv []))) H4 := ⟨fun b o eb => Z.2.hh b o (M1.hh _ _ eb) (fun m => by have := fresh b m; rw [eb] at this; cases this), M1.ff, M1.fn, Z.2.sm⟩
          have CA4 := CA0.more M4
          refine ⟨_, rfl, c, _, _, _, _, rfl, CA4.ins, T.C_Calendar, T.n_Calendar_dates, cFs_dates, .inl ⟨rfl, _, SqL.of CA4.ds⟩, _, rfl, y.ds, _, _, rfl, rfl, CA4.ds, by rw [List.length_map, dl]; exact sz (by omega), ?_⟩
          have X := CalAt.push CA0 M4 Z.1 fresh
          refine ⟨_, rfl, c, _, _, _, _, rfl, X.1.ins, T.C_Calendar, T.n_Calendar_dates, cFs_dates, y.ds, _, rfl, .inl (SqL.of X.1.ds), _, _, rfl, rfl, qi (k _ _ _ X.2 X.1) ?_⟩
          rw [List.length_map, List.length_append, dl, List.length_singleton]
          omega
      · have hm1 : (fun n => decide (n < 1440)) mi = false := decide_eq_false hm
        rw [hm1]
        exact iteT (bad (.inr (by omega)))
def spLoad (A : Ad) : Sp := fun vs H Q _ => ∃ (c v : Addr) (y : CA) (t : List Nat) (rs : List (Cl09.Date × Bool)) (F : Hp) (l : List Nat), vs = [.ref c, .ref v] ∧ CalAt A.c_Calendar A.c_Date F H c y t rs ∧ F v = some (.lst (nv l)) ∧ l.length ≤ 700 ∧
  (match Cl09.read l with
    | .error e => PostC A c y F H Q (faultI e) t rs
    | .ok s => COk s → PostC A c y F H Q (s.dates.length : Int) s.title (s.dates.map fun d => (d, true)))
theorem ok_load (T : Txt K mg A) : FnOk P w K mg base CX0 9 A.f_load A.d_load ["calendar", "text"] (spLoad A) := by
  refine T.F_load.ok sc_load (fun vs H Q E h => ?_) (fun cdv Ar outer s H vs Q E hr h => ?_)
  · obtain ⟨c, v, y, t, rs, F, l, rfl, _⟩ := h
    rfl
  · obtain ⟨c, v, y, t, rs, F, l, rfl, CA0, hv, hl, k⟩ := h
    refine ⟨_, (pss_cons (ps_set (i := 2) sc_load.nd rfl (Or.inl rfl) (pe_call (ok_read T) (hr.mono (by decide)) (by rfl) T.g_read T.F_read.kp (b_read T) .nil pass0 (pa_cons (pv 1) pa_nil)))
      (pss_cons (ps_if (pt_cmpR op_lt (pe_fld (pv 2) rfl) pe_int (nomark _))
        (pss_one (ps_ret (pe_fld (pv 2) rfl)))
        pss_nil)
      (pss_cons (ps_fld (pv 0) (pe_fld (pe_fld (pv 2) rfl) rfl) rfl)
      (pss_cons (ps_fld (pv 0) (pe_fld (pe_fld (pv 2) rfl) rfl) rfl)
      (pss_one (ps_ret (pe_callB call_len_seq (by rfl) T.z_len PySem.boot_len (pa_cons (pe_fld (pv 0) rfl) pa_nil)))))))), ?_⟩
    have sF := CA0.sm
    refine ⟨_, rfl, v, l, F, rfl, sF, sF _ _ hv, hl, fun F1 H1 p z t1 rs1 b1 f1 M1 fresh R res => ?_⟩
    have CA1 := CA0.more M1
    refine ⟨_, rfl, p, _, _, _, _, rfl, R.ins, T.C_Reading, T.n_Reading_fault, rFs_fault, _, _, rfl, rfl, _, rfl, ?_⟩
    unfold readRes at res
    cases er : Cl09.read l with
    | error e =>
      rw [er] at res k
      subst res
      refine if_true_of (decide_eq_true (fault_neg e)) ?_
      refine ⟨_, rfl, p, _, _, _, _, rfl, R.ins, T.C_Reading, T.n_Reading_fault, rFs_fault, ?_⟩
      exact k F1 H1 y (Grow.more M1) CA1
    | ok s =>
      rw [er] at res k
      obtain ⟨rfl, rfl, rfl, ok⟩ := res
      refine if_false_of (decide_eq_false (by decide)) ?_
      have tc : H c ≠ none := by rw [CA0.ins]; simp
      have nc : ∀ m ∈ mutsR p z, m ≠ c := fun m hm e => tc (by rw [← e]; exact fresh m hm)
      have npc : p ≠ c := nc p (List.mem_cons_self ..)
      have nzc : z.c ≠ c := nc z.c (List.mem_cons_of_mem _ (List.mem_cons_self ..))
      have nds : z.y.ds ≠ c := nc z.y.ds (List.mem_cons_of_mem _ (List.mem_cons_of_mem _ (List.mem_cons_self ..)))
      refine ⟨_, rfl, p, _, _, _, _, rfl, R.ins, T.C_Reading, T.n_Reading_calendar, rFs_calendar, z.c, _, _, _, _, rfl, R.cal.ins, T.C_Calendar, T.n_Calendar_title, cFs_title, _, rfl, c, _, _, _, rfl, CA1.ins, T.C_Calendar, T.n_Calendar_title, cFs_len _ _, ?_⟩
      rw [put_title]
      refine ⟨_, rfl, p, _, _, _, _, rfl, (upd_ne npc).trans R.ins, T.C_Reading, T.n_Reading_calendar, rFs_calendar, z.c, _, _, _, _, rfl, (upd_ne nzc).trans R.cal.ins, T.C_Calendar, T.n_Calendar_dates, cFs_dates, _, rfl, c, _, _, _, rfl, upd_same, T.C_Calendar, T.n_Calendar_dates, cFs_len _ _, ?_⟩
      rw [put_dates, upd_upd]
      have g : Grow [c] [c] F1 H1 F1 (upd H1 c (.ins A.c_Calendar y.dx (cFs (.ref z.y.tt) (.ref z.y.ds)))) := Grow.put M1.sm (by simp) CA1.fc
      have nd := R.cal.nd
      unfold mutsC at nd
      have nd2 := (List.nodup_cons.mp nd).2
      have hds : (upd H1 c (.ins A.c_Calendar y.dx (cFs (.ref z.y.tt) (.ref z.y.ds)))) z.y.ds = some (.lst (z.y.das.map fun p => V.ref p.1)) := (upd_ne nds).trans R.cal.ds
      have CA' : CalAt A.c_Calendar A.c_Date F1 (upd H1 c (.ins A.c_Calendar y.dx (cFs (.ref z.y.tt) (.ref z.y.ds)))) c ⟨y.dx, z.y.tt, z.y.ds, z.y.das⟩ s.title (s.dates.map fun d => (d, true)) := by
        refine ⟨upd_same, R.cal.tt, hds, R.cal.dates.keep g fun m hm e => nc m (List.mem_cons_of_mem _ (List.mem_cons_of_mem _ (List.mem_cons_of_mem _ hm))) (mem_one e), ?_, CA1.fc, R.cal.fd, g.sm⟩
        exact List.nodup_cons.mpr ⟨fun m => nc c (List.mem_cons_of_mem _ (List.mem_cons_of_mem _ m)) rfl, nd2⟩
      have GG : Grow (mutsC c y) (mutsC c ⟨y.dx, z.y.tt, z.y.ds, z.y.das⟩) F H F1 (upd H1 c (.ins A.c_Calendar y.dx (cFs (.ref z.y.tt) (.ref z.y.ds)))) := by
        refine ⟨fun b o e hb => ?_, M1.ff, M1.fn, g.sm, fun m hm => ?_, fun b hb => upd_tr (same_tr M1.hh hb)⟩
        · rw [upd_ne fun q => hb (by rw [q]; exact List.mem_cons_self ..)]
          exact M1.hh _ _ e
        · rcases List.mem_cons.mp hm with rfl | hm
          · exact .inl (List.mem_cons_self ..)
          · exact .inr (fresh m (List.mem_cons_of_mem _ (List.mem_cons_of_mem _ hm)))
      refine ⟨_, rfl, c, _, _, _, _, rfl, upd_same, T.C_Calendar, T.n_Calendar_dates, cFs_dates, z.y.ds, _, rfl, .inl (SqL.of hds), qi (k ok _ _ _ GG CA') ?_⟩
      have dl := R.cal.dates.len
      rw [List.length_map, dl, List.length_map]
end
end Ct

set_option Elab.async false
set_option linter.all false
set_option maxRecDepth 100000
set_option maxHeartbeats 4000000
namespace Ct
open PySem PySem.Spec PyProof.Rows L2
/-! ### calls as the specification has them -/
theorem nats_zs (l : List Nat) : Cl09Neutral.nats (zs l) = l := by
  unfold Cl09Neutral.nats zs
  rw [List.map_map]
  have : (Int.toNat ∘ fun n : Nat => (n : Int)) = id := by funext n; simp
  rw [this, List.map_id]
theorem bytes_of {l : List Nat} (h : Cl09Neutral.bytes (zs l) = true) : l.length ≤ 700 ∧ ∀ c ∈ l, c ≤ 255 := by
  unfold Cl09Neutral.bytes at h
  rw [Bool.and_eq_true] at h
  refine ⟨?_, fun c hc => ?_⟩
  · have := of_decide_eq_true h.1
    unfold zs at this
    rw [List.length_map] at this
    exact this
  · have := List.all_eq_true.mp h.2 (c : Int) (List.mem_map.mpr ⟨c, hc, rfl⟩)
    simp [NeutralIO.within] at this
    omega
def callL (p : Nat) (xs : List Nat) (rows : List (List Nat)) : List (List Int) := ((p : Int) :: zs xs) :: rows.map zs
def stOf (t : List Nat) (rs : List (Cl09.Date × Bool)) : Cl09.State := ⟨t, rs.map (·.1)⟩
/-- what a call's answer is: the state behind it, the numbers -/
def stepOf (t : List Nat) (rs : List (Cl09.Date × Bool)) (p : Nat) (xs : List Nat) (rows : List (List Nat)) : Cl09.State × List Int := Cl09Neutral.step (stOf t rs) (callL p xs rows)
/-! ### WF stays -/
section
variable {r : Cl09.Date}
theorem wf_name (W : WF r) (l : List Nat) : WF (gName r l).2 := by
  unfold gName
  split
  · exact W
  · rename_i h
    have : Cl09.isName l = true := by simpa using h
    unfold Cl09.isName Cl09.NAME at this
    rw [Bool.and_eq_true] at this
    exact { W with nm := of_decide_eq_true this.1 }
theorem wf_long (W : WF r) (n : Nat) : WF (gLong r n).2 := by
  unfold gLong
  split
  · exact W
  · exact { W with lg := by simp only []; omega }
theorem wf_ring (W : WF r) (n : Nat) : WF (gRing r n).2 := by
  unfold gRing
  split
  · exact W
  split
  · have fl := List.length_filter_le (fun m => m != n) r.rings
    have := W.rl
    exact { W with rl := by simp only []; omega, rs := W.rs.sublist List.filter_sublist, rb := fun a ha => W.rb a (List.mem_filter.mp ha).1 }
  split
  · exact W
  · rename_i h1 h2 h3
    have pl := (ins_perm n r.rings).length_eq
    rw [List.length_cons] at pl
    have hn : n ∉ r.rings := fun z => h2 (by simpa using z)
    refine { W with rl := by simp only []; omega, rs := ins_sorted W.rs hn, rb := fun a ha => ?_ }
    rcases ins_mem.mp ha with rfl | ha
    · omega
    · exact W.rb a ha
theorem wf_tag (W : WF r) (l : List Nat) : WF (gTag r l).2 := by
  unfold gTag
  split
  · exact W
  split
  · exact { W with tl := Nat.le_trans (List.length_filter_le _ _) W.tl, tb := fun a ha => W.tb a (List.mem_filter.mp ha).1, tn := W.tn.sublist List.filter_sublist }
  split
  · exact W
  · rename_i h1 h2 h3
    have ht : Cl09.isTag l = true := by simpa using h1
    have hl : l.length ≤ 8 := by
      unfold Cl09.isTag at ht
      simp only [Bool.and_eq_true, decide_eq_true_eq] at ht
      exact ht.2.1
    have hn : l ∉ r.tags := fun z => h2 (by simpa using z)
    refine { W with tl := ?_, tb := fun a ha => ?_, tn := ?_ }
    · show (r.tags ++ [l]).length ≤ 5
      rw [List.length_append, List.length_singleton]
      omega
    · rcases List.mem_append.mp ha with ha | ha
      · exact W.tb a ha
      · rw [List.mem_singleton.mp ha]; exact hl
    · refine List.nodup_append.mpr ⟨W.tn, by simp, fun a ha b hb e => ?_⟩
      have : b = l := List.mem_singleton.mp hb
      subst this
      subst e
      exact hn ha
theorem wf_other (W : WF r) (n v : List Nat) : WF (gOther r n v).2 := by
  unfold gOther
  split
  · exact W
  split
  · exact W
  · rename_i h1 h2
    simp only [not_or, Bool.not_eq_false] at h1
    have hn : n.length ≤ 16 := by
      have := h1.1
      unfold Cl09.isExtra at this
      simp only [Bool.and_eq_true, decide_eq_true_eq] at this
      exact this.2.2.1
    have hv : v.length ≤ 60 := by
      have := h1.2
      unfold Cl09.isValue at this
      rw [Bool.and_eq_true] at this
      exact of_decide_eq_true this.1
    refine { W with el := ?_, eb := fun a ha => ?_ }
    · show (r.extra ++ [(n, v)]).length ≤ 3
      rw [List.length_append, List.length_singleton]
      omega
    · rcases List.mem_append.mp ha with ha | ha
      · exact W.eb a ha
      · rw [List.mem_singleton.mp ha]
        exact ⟨hn, by simp only []; omega⟩
end
/-! ### one date of a calendar -/
theorem set_same {α : Type} : ∀ {l : List α} {k : Nat} {d : α}, l[k]? = some d → l.set k d = l
  | [], _, _, h => by simp at h
  | a :: r, 0, d, h => by
    have : a = d := Option.some.inj h
    rw [this]
    rfl
  | a :: r, k + 1, d, h => by
    show a :: r.set k d = a :: r
    rw [set_same (l := r) h]
theorem set_mid {α : Type} (x y : α) (q : List α) : ∀ p : List α, (p ++ x :: q).set p.length y = p ++ y :: q
  | [] => rfl
  | a :: p => by
    show a :: (p ++ x :: q).set p.length y = _
    rw [set_mid x y q p]
    rfl
theorem split_at {α : Type} : ∀ {l : List α} {k : Nat} {x : α}, l[k]? = some x → ∃ p q, l = p ++ x :: q ∧ p.length = k
  | [], _, _, h => by simp at h
  | a :: r, 0, x, h => ⟨[], r, by have : a = x := Option.some.inj h; rw [this]; rfl, rfl⟩
  | a :: r, k + 1, x, h => by
    obtain ⟨p, q, e, l⟩ := split_at (l := r) h
    exact ⟨a :: p, q, by rw [e]; rfl, by simp [l]⟩
/-- a calendar's k-th date -/
structure AtK (A : Ad) (F H : Hp) (y : CA) (rs : List (Cl09.Date × Bool)) (k : Nat) (r : Cl09.Date) : Prop where
  ex : ∃ pre d x post rp rq, y.das = pre ++ (d, x) :: post ∧ rs = rp ++ (r, true) :: rq ∧ rp.length = pre.length ∧ rp.length = k ∧ DateAt A.c_Date F H d x r true
theorem at_k {A : Ad} {F H : Hp} {c : Addr} {y : CA} {t : List Nat} {rs : List (Cl09.Date × Bool)} {k : Nat} (CA0 : CalAt A.c_Calendar A.c_Date F H c y t rs) (O : CalOk t rs) (hk : k < rs.length) : ∃ r, rs[k]? = some (r, true) ∧ WF r ∧ AtK A F H y rs k r := by
  obtain ⟨⟨r, has⟩, hr⟩ : ∃ q, rs[k]? = some q := ⟨rs[k], List.getElem?_eq_getElem hk⟩
  have m := List.mem_of_getElem? hr
  have hh : has = true := O.al _ m
  subst hh
  obtain ⟨⟨d, x⟩, hp, D⟩ := DatesAt.get CA0.dates hr
  obtain ⟨pre, post, e1, l1⟩ := split_at hp
  obtain ⟨rp, rq, e2, l2⟩ := split_at hr
  exact ⟨r, hr, O.wf _ m, ⟨pre, d, x, post, rp, rq, e1, e2, by omega, l2, D⟩⟩
theorem CalOk.set {t : List Nat} {rp rq : List (Cl09.Date × Bool)} {q q' : Cl09.Date × Bool} (O : CalOk t (rp ++ q :: rq)) (W : WF q'.1) (h : q'.2 = true) : CalOk t (rp ++ q' :: rq) := by
  refine ⟨O.tl, by have := O.dl; simpa using this, fun z hz => ?_, fun z hz => ?_⟩
  · rcases List.mem_append.mp hz with hz | hz
    · exact O.wf z (List.mem_append_left _ hz)
    · rcases List.mem_cons.mp hz with rfl | hz
      · exact W
      · exact O.wf z (List.mem_append_right _ (List.mem_cons_of_mem _ hz))
  · rcases List.mem_append.mp hz with hz | hz
    · exact O.al z (List.mem_append_left _ hz)
    · rcases List.mem_cons.mp hz with rfl | hz
      · exact h
      · exact O.al z (List.mem_append_right _ (List.mem_cons_of_mem _ hz))
/-- how an answer of one number goes on -/
def Goes1 (A : Ad) (c : Addr) (y : CA) (F H : Hp) (Q : VK) (res : Cl09.State × List Int) : Prop :=
  ∀ F' H' y' t' rs' k, Grow (mutsC c y) (mutsC c y') F H F' H' → CalAt A.c_Calendar A.c_Date F' H' c y' t' rs' → CalOk t' rs' → res = (stOf t' rs', [k]) → Q (.int k) H'
/-- from a date's setter to its calendar -/
theorem lift_set {A : Ad} {F H : Hp} {c : Addr} {y : CA} {t : List Nat} {rs : List (Cl09.Date × Bool)} {k : Nat} {r : Cl09.Date} {Q : VK} {res : Cl09.State × List Int} (CA0 : CalAt A.c_Calendar A.c_Date F H c y t rs) (O : CalOk t rs) (G : Goes1 A c y F H Q res)
    {pre post : List (Addr × DA)} {d : Addr} {x : DA} {rp rq : List (Cl09.Date × Bool)} (hd : y.das = pre ++ (d, x) :: post) (hr : rs = rp ++ (r, true) :: rq) (hl : rp.length = pre.length) (hk : rp.length = k) (z : Int × Cl09.Date) (Wz : WF z.2)
    (e : res = (Cl09.put (stOf t rs) k z.2, [z.1])) : Post A.c_Date d x F H Q z := by
  intro F' H' x' g D'
  have K := CA0.set (q' := (z.2, true)) hd hr hl g D'
  refine G F' H' _ t _ z.1 ⟨fun b o eb hb => g.hh b o eb fun m => hb ?_, g.ff, g.fn, g.sm, fun m hm => ?_, g.tr⟩ K (by rw [hr] at O; exact O.set Wz rfl) ?_
  · unfold mutsC
    rw [hd, mutsL_app, mutsL_cons]
    simp [m]
  · have hm2 : m ∈ c :: y.ds :: mutsL (pre ++ (d, x') :: post) := hm
    rw [mutsL_app, mutsL_cons] at hm2
    have h : m = c ∨ m = y.ds ∨ m ∈ mutsL pre ∨ m ∈ muts d x' ∨ m ∈ mutsL post := by simpa using hm2
    unfold mutsC
    rw [hd, mutsL_app, mutsL_cons]
    rcases h with h | h | h | h | h
    · exact .inl (by simp [h])
    · exact .inl (by simp [h])
    · exact .inl (by simp [h])
    · rcases g.mm m h with h | h
      · exact .inl (by simp [h])
      · exact .inr h
    · exact .inl (by simp [h])
  · rw [e]
    congr 1
    unfold Cl09.put stOf
    simp only [hr, List.map_append, List.map_cons]
    have : (rp.map (·.1)).length = k := by rw [List.length_map]; exact hk
    rw [← this, set_mid]
section
variable {P : Program} {w : World} {K : PySem.W.Frag} {mg : Str → Option Value} {base : Heap} {A : Ad}
theorem step_put {s : Cl09.State} {k : Nat} {d : Cl09.Date} {f : Cl09.Date → Cl09.State × List Int} (h : s.dates[k]? = some d) (z : Int × Cl09.Date) (e : f d = (Cl09.put s k z.2, [z.1])) : Cl09.with_ s k f = (Cl09.put s k z.2, [z.1]) := by
  unfold Cl09.with_
  rw [h]
  exact e
theorem put_self {s : Cl09.State} {k : Nat} {d : Cl09.Date} (h : s.dates[k]? = some d) : Cl09.put s k d = s := by
  unfold Cl09.put
  rw [set_same h]
theorem st_at {t : List Nat} {rs : List (Cl09.Date × Bool)} {k : Nat} {r : Cl09.Date} (h : rs[k]? = some (r, true)) : (stOf t rs).dates[k]? = some r := by
  show (rs.map (·.1))[k]? = some r
  rw [List.getElem?_map, h]
  rfl
section
variable {s : Cl09.State} {k : Nat} {d : Cl09.Date} (h : s.dates[k]? = some d)
include h
theorem sp_name (b : List Nat) : Cl09.step s (.name k b) = (Cl09.put s k (gName d b).2, [(gName d b).1]) := by
  refine step_put h (gName d b) ?_
  unfold gName
  by_cases c : Cl09.isName b = false
  · rw [if_pos c, if_pos c, put_self h]
  · rw [if_neg c, if_neg c]
theorem sp_long (n : Nat) : Cl09.step s (.long k n) = (Cl09.put s k (gLong d n).2, [(gLong d n).1]) := by
  refine step_put h (gLong d n) ?_
  unfold gLong
  by_cases c : 9999 < n
  · rw [if_pos c, if_pos c, put_self h]
  · rw [if_neg c, if_neg c]
theorem sp_ring (n : Nat) : Cl09.step s (.ring k n) = (Cl09.put s k (gRing d n).2, [(gRing d n).1]) := by
  refine step_put h (gRing d n) ?_
  unfold gRing
  by_cases c : 9999 < n
  · rw [if_pos c, if_pos c, put_self h]
  rw [if_neg c, if_neg c]
  by_cases c2 : d.rings.contains n = true
  · rw [if_pos c2, if_pos c2]
  rw [if_neg c2, if_neg c2]
  by_cases c3 : 3 ≤ d.rings.length
  · rw [if_pos c3, if_pos (show Cl09.RINGS ≤ d.rings.length from c3), put_self h]
  · rw [if_neg c3, if_neg (show ¬ Cl09.RINGS ≤ d.rings.length from c3)]
theorem sp_tag (b : List Nat) : Cl09.step s (.tag k b) = (Cl09.put s k (gTag d b).2, [(gTag d b).1]) := by
  refine step_put h (gTag d b) ?_
  unfold gTag
  by_cases c : Cl09.isTag b = false
  · rw [if_pos c, if_pos c, put_self h]
  rw [if_neg c, if_neg c]
  by_cases c2 : d.tags.contains b = true
  · rw [if_pos c2, if_pos c2]
  rw [if_neg c2, if_neg c2]
  by_cases c3 : 5 ≤ d.tags.length
  · rw [if_pos c3, if_pos (show Cl09.TAGS ≤ d.tags.length from c3), put_self h]
  · rw [if_neg c3, if_neg (show ¬ Cl09.TAGS ≤ d.tags.length from c3)]
theorem sp_other (n v : List Nat) : Cl09.step s (.extra k n v) = (Cl09.put s k (gOther d n v).2, [(gOther d n v).1]) := by
  refine step_put h (gOther d n v) ?_
  unfold gOther
  by_cases c : Cl09.isExtra n = false ∨ Cl09.isValue v = false
  · rw [if_pos c, if_pos c, put_self h]
  rw [if_neg c, if_neg c]
  by_cases c3 : 3 ≤ d.extra.length
  · rw [if_pos c3, if_pos (show Cl09.EXTRA ≤ d.extra.length from c3), put_self h]
  · rw [if_neg c3, if_neg (show ¬ Cl09.EXTRA ≤ d.extra.length from c3)]
end
theorem step_none {s : Cl09.State} {k : Nat} {f : Cl09.Date → Cl09.State × List Int} (h : s.dates[k]? = none) : Cl09.with_ s k f = (s, [-3]) := by
  unfold Cl09.with_
  rw [h]
/-- the shape of a call by its number, and what is asked of it -/
structure Shaped (p : Nat) (xs : List Nat) (rows : List (List Nat)) : Prop where
  sh : PyCl09.shape (p : Int) = some (xs.length, rows.length)
  ak : Cl09Neutral.asked1 (callL p xs rows) = true
theorem len0 {α : Type} {l : List α} (h : 0 = l.length) : l = [] := List.eq_nil_of_length_eq_zero h.symm
theorem len1 {α : Type} {l : List α} (h : 1 = l.length) : ∃ a, l = [a] := by
  match l, h with
  | [a], _ => exact ⟨a, rfl⟩
theorem len2 {α : Type} {l : List α} (h : 2 = l.length) : ∃ a b, l = [a, b] := by
  match l, h with
  | [a, b], _ => exact ⟨a, b, rfl⟩
theorem len4 {α : Type} {l : List α} (h : 4 = l.length) : ∃ a b c d, l = [a, b, c, d] := by
  match l, h with
  | [a, b, c, d], _ => exact ⟨a, b, c, d, rfl⟩
theorem shape_pair {p n k : Nat} {xs : List Nat} {rows : List (List Nat)} (S : Shaped p xs rows) (e : PyCl09.shape (p : Int) = some (n, k)) : n = xs.length ∧ k = rows.length := by
  have := e.symm.trans S.sh
  have q := Option.some.inj this
  exact ⟨congrArg Prod.fst q, congrArg Prod.snd q⟩
theorem row1 {F : Hp} {rps : List Addr} {b : List Nat} (h : RowsAt F rps [b]) : ∃ a, rps = [a] ∧ F a = some (.lst (nv b)) := by
  match rps, h with
  | [a], h => exact ⟨a, rfl, h.1⟩
theorem row2 {F : Hp} {rps : List Addr} {b d : List Nat} (h : RowsAt F rps [b, d]) : ∃ a c, rps = [a, c] ∧ F a = some (.lst (nv b)) ∧ F c = some (.lst (nv d)) := by
  match rps, h with
  | [a, c], h => exact ⟨a, c, rfl, h.1, h.2.1⟩
end
end Ct

set_option Elab.async false
set_option linter.all false
set_option maxRecDepth 100000
set_option maxHeartbeats 4000000
namespace Ct
open PySem PySem.Spec PyProof.Rows L2
/-! ### what the calls drop, find, title, cut, join need -/
section
variable {C CD : Addr} {F H : Hp} {c : Addr} {y : CA} {t : List Nat} {rs : List (Cl09.Date × Bool)}
/-- one date taken out -/
theorem CalAt.drop {pre post : List (Addr × DA)} {d : Addr} {x : DA} {rp rq : List (Cl09.Date × Bool)} {q : Cl09.Date × Bool} (h : CalAt C CD F H c y t rs) (hd : y.das = pre ++ (d, x) :: post) (hr : rs = rp ++ q :: rq) (hl : rp.length = pre.length) :
    CalAt C CD F (upd H y.ds (.lst ((pre ++ post).map fun p => V.ref p.1))) c { y with das := pre ++ post } t (rp ++ rq) ∧ Grow (mutsC c y) (mutsC c { y with das := pre ++ post }) F H F (upd H y.ds (.lst ((pre ++ post).map fun p => V.ref p.1))) := by
  have nd := h.nd
  unfold mutsC at nd
  rw [hd, mutsL_app, mutsL_cons] at nd
  obtain ⟨r1, r2, e, l1, h1, h2⟩ := DatesAt.split (as := pre) (bs := (d, x) :: post) (by rw [← hd]; exact h.dates)
  obtain ⟨rfl, e2⟩ : r1 = rp ∧ r2 = q :: rq := List.append_inj (e.symm.trans hr) (l1.trans hl.symm)
  subst e2
  have n1 := List.nodup_cons.mp nd
  have n2 := List.nodup_cons.mp n1.2
  have n3 := List.nodup_append.mp n2.2
  have n4 := List.nodup_append.mp n3.2.1
  have g : Grow [y.ds] [y.ds] F H F (upd H y.ds (.lst ((pre ++ post).map fun p => V.ref p.1))) := Grow.put h.sm (by simp) h.fd
  refine ⟨⟨?_, h.tt, upd_same, ?_, ?_, h.fc, h.fd, g.sm⟩, ?_, Same.refl F, fun _ _ => rfl, g.sm, ?_, fun b hb => upd_tr hb⟩
  · rw [upd_ne fun e => n1.1 (by rw [e]; exact List.mem_cons_self ..)]
    exact h.ins
  · refine DatesAt.app (h1.keep g fun m hm e => n2.1 (mem_one e ▸ List.mem_append_left _ hm)) (h2.2.keep g fun m hm e => n2.1 (mem_one e ▸ List.mem_append_right _ (List.mem_append_right _ hm)))
  · show (c :: y.ds :: mutsL (pre ++ post)).Nodup
    rw [mutsL_app]
    refine List.nodup_cons.mpr ⟨fun z => ?_, List.nodup_cons.mpr ⟨fun z => ?_, List.nodup_append.mpr ⟨n3.1, n4.2.1, fun a ha b hb e => n3.2.2 a ha b (List.mem_append_right _ hb) e⟩⟩⟩
    · have z' : c = y.ds ∨ c ∈ mutsL pre ∨ c ∈ mutsL post := by simpa using z
      rcases z' with z | z | z
      · exact n1.1 (by simp [z])
      · exact n1.1 (by simp [z])
      · exact n1.1 (by simp [z])
    · rcases List.mem_append.mp z with z | z
      · exact n2.1 (by simp [z])
      · exact n2.1 (by simp [z])
  · intro a o e ha
    rw [upd_ne fun z => ha (by rw [z]; exact List.mem_cons_of_mem _ (List.mem_cons_self ..))]
    exact e
  · intro m hm
    refine .inl ?_
    have hm2 : m ∈ c :: y.ds :: mutsL (pre ++ post) := hm
    rw [mutsL_app] at hm2
    unfold mutsC
    rw [hd, mutsL_app, mutsL_cons]
    have h : m = c ∨ m = y.ds ∨ m ∈ mutsL pre ∨ m ∈ mutsL post := by simpa using hm2
    rcases h with h | h | h | h <;> simp [h]
end
theorem CalOk.drop {t : List Nat} {rp rq : List (Cl09.Date × Bool)} {q : Cl09.Date × Bool} (O : CalOk t (rp ++ q :: rq)) : CalOk t (rp ++ rq) := by
  have sub : ∀ z ∈ rp ++ rq, z ∈ rp ++ q :: rq := fun z hz => by
    rcases List.mem_append.mp hz with hz | hz
    · exact List.mem_append_left _ hz
    · exact List.mem_append_right _ (List.mem_cons_of_mem _ hz)
  have dl := O.dl
  rw [List.length_append, List.length_cons] at dl
  exact ⟨O.tl, by rw [List.length_append]; omega, fun z hz => O.wf z (sub z hz), fun z hz => O.al z (sub z hz)⟩
theorem erase_mid {α : Type} (x : α) (q : List α) : ∀ p : List α, (p ++ x :: q).eraseIdx p.length = p ++ q
  | [] => rfl
  | a :: p => by
    show a :: (p ++ x :: q).eraseIdx p.length = _
    rw [erase_mid x q p]
    rfl
theorem sp_drop {t : List Nat} {rp rq : List (Cl09.Date × Bool)} {q : Cl09.Date × Bool} {k : Nat} (hk : rp.length = k) : Cl09.step (stOf t (rp ++ q :: rq)) (.drop k) = (stOf t (rp ++ rq), [((rp ++ rq).length : Int)]) := by
  have e0 : ∀ s : Cl09.State, Cl09.step s (.drop k) = Cl09.with_ s k fun _ => ({ s with dates := s.dates.eraseIdx k }, [(s.dates.length : Int) - 1]) := fun _ => rfl
  have ek : (rp.map (·.1)).length = k := by rw [List.length_map]; exact hk
  have ed : (stOf t (rp ++ q :: rq)).dates = rp.map (·.1) ++ q.1 :: rq.map (·.1) := by simp [stOf]
  rw [e0]
  unfold Cl09.with_
  have eg : (stOf t (rp ++ q :: rq)).dates[k]? = some q.1 := by
    rw [ed, ← ek, List.getElem?_append_right (Nat.le_refl _), Nat.sub_self]
    rfl
  rw [eg]
  simp only []
  rw [ed, ← ek, erase_mid]
  refine Prod.ext ?_ ?_
  · simp [stOf]
  · simp only [List.length_append, List.length_cons, List.length_map]
    congr 1
    omega
theorem sp_none_drop {s : Cl09.State} {k : Nat} (h : s.dates[k]? = none) : Cl09.step s (.drop k) = (s, [-3]) := step_none h
theorem sp_none_date {s : Cl09.State} {k : Nat} (h : s.dates[k]? = none) : Cl09.step s (.date k) = (s, [-3]) := step_none h
/-- a date's numbers -/
def dateNums (d : Cl09.Date) : List Nat := [d.day, d.minute, d.long, d.name.length] ++ (d.name ++ (d.rings.length :: (d.rings ++ (d.tags.length :: (d.tags.flatMap (fun t => t.length :: t) ++ (d.extra.length :: d.extra.flatMap fun x => x.1.length :: (x.1 ++ (x.2.length :: x.2))))))))
theorem sp_date {s : Cl09.State} {k : Nat} {d : Cl09.Date} (h : s.dates[k]? = some d) : Cl09.step s (.date k) = (s, Cl09.nums (dateNums d)) := by
  have e0 : Cl09.step s (.date k) = Cl09.with_ s k fun d => (s, Cl09.nums (dateNums d)) := rfl
  rw [e0]
  unfold Cl09.with_
  rw [h]
theorem CalOk.title {t t' : List Nat} {rs : List (Cl09.Date × Bool)} (O : CalOk t rs) (h : t'.length ≤ 40) : CalOk t' rs := ⟨h, O.dl, O.wf, O.al⟩
def gTitle (t b : List Nat) : Int × List Nat := if Cl09.isName b = false then (-1, t) else ((t.length : Int), b)
theorem sp_title {t : List Nat} {rs : List (Cl09.Date × Bool)} (b : List Nat) : Cl09.step (stOf t rs) (.title b) = (stOf (gTitle t b).2 rs, [(gTitle t b).1]) := by
  have e0 : Cl09.step (stOf t rs) (.title b) = if Cl09.isName b = false then (stOf t rs, [-1]) else ({ stOf t rs with title := b }, [((stOf t rs).title.length : Int)]) := rfl
  rw [e0]
  unfold gTitle
  by_cases c : Cl09.isName b = false
  · rw [if_pos c, if_pos c]
  · rw [if_neg c, if_neg c]
    rfl
theorem ok_title {t : List Nat} {rs : List (Cl09.Date × Bool)} (O : CalOk t rs) (b : List Nat) : CalOk (gTitle t b).2 rs := by
  unfold gTitle
  split
  · exact O
  · rename_i h
    have : Cl09.isName b = true := by simpa using h
    unfold Cl09.isName Cl09.NAME at this
    rw [Bool.and_eq_true] at this
    exact O.title (of_decide_eq_true this.1)
theorem sp_join (s : Cl09.State) (b : List Nat) : Cl09.step s (.join b) = (s, Cl09.bytes (Cl09.joined b)) := rfl
theorem sp_cut (s : Cl09.State) (b : List Nat) : Cl09.step s (.cut b) = (s, if b.contains 10 = true then [-1] else Cl09.bytes (Cl09.cut b)) := rfl
/-- the numbers of the dates that have a tag -/
def found (b : List Nat) : Nat → List Cl09.Date → List Nat
  | _, [] => []
  | i, d :: r => if d.tags.contains b = true then i :: found b (i + 1) r else found b (i + 1) r
theorem found_is (b : List Nat) : ∀ (l : List Cl09.Date) (i : Nat), ((l.zipIdx i).filter fun x => x.1.tags.contains b).map (fun x => x.2) = found b i l
  | [], _ => rfl
  | d :: r, i => by
    rw [List.zipIdx_cons, List.filter_cons]
    unfold found
    by_cases h : d.tags.contains b = true
    · rw [if_pos h, if_pos h, List.map_cons, found_is b r (i + 1)]
    · rw [if_neg h, if_neg h, found_is b r (i + 1)]
theorem sp_find (s : Cl09.State) (b : List Nat) : Cl09.step s (.find b) = (s, Cl09.nums ((found b 0 s.dates).length :: found b 0 s.dates)) := by
  have e0 : Cl09.step s (.find b) = (s, Cl09.nums (((s.dates.zipIdx.filter fun x => x.1.tags.contains b).map fun x => x.2).length :: ((s.dates.zipIdx.filter fun x => x.1.tags.contains b).map fun x => x.2))) := rfl
  rw [e0, found_is]
theorem found_snoc (b : List Nat) (d : Cl09.Date) : ∀ (l : List Cl09.Date) (i : Nat), found b i (l ++ [d]) = found b i l ++ if d.tags.contains b = true then [i + l.length] else []
  | [], i => by
    show found b i [d] = _
    unfold found found
    split <;> simp
  | a :: r, i => by
    show found b i (a :: (r ++ [d])) = _
    unfold found
    rw [found_snoc b d r (i + 1), List.length_cons, show i + 1 + r.length = i + (r.length + 1) by omega]
    split <;> simp
theorem found_len (b : List Nat) : ∀ (l : List Cl09.Date) (i : Nat), (found b i l).length ≤ l.length
  | [], _ => Nat.le_refl _
  | a :: r, i => by
    have := found_len b r (i + 1)
    unfold found
    split <;> simp <;> omega
/-! ### a call's answer -/
/-- how an answer goes on: a new list of its numbers -/
def Goes (A : Ad) (c : Addr) (y : CA) (F H : Hp) (Q : VK) (res : Cl09.State × List Int) : Prop :=
  ∀ F' H' y' t' rs' q ans, Grow (mutsC c y) (mutsC c y') F H F' H' → CalAt A.c_Calendar A.c_Date F' H' c y' t' rs' → CalOk t' rs' → H q = none → H' q = some (.lst (ans.map V.int)) → res = (stOf t' rs', ans) → Q (.ref q) H'
theorem grow_free {M M' : List Addr} {F H F' H' : Hp} {p : Addr} (g : Grow M M' F H F' H') (h : H' p = none) : H p = none := by
  cases e : H p with
  | none => rfl
  | some o => exact absurd h (g.tr p (by rw [e]; simp))
/-- a list of one number -/
theorem Goes.one {A : Ad} {c : Addr} {y : CA} {F H : Hp} {Q : VK} {res : Cl09.State × List Int} (G : Goes A c y F H Q res) : Goes1 A c y F H (fun v H1 => 1 ≤ sizeLine ∧ ∀ p, H1 p = none → Q (.ref p) (upd H1 p (.lst [v]))) res := by
  intro F' H' y' t' rs' k g CA1 O1 e
  refine ⟨by decide, fun p np => ?_⟩
  have M := More.same CA1.sm (same_upd (o := .lst [.int k]) np)
  exact G F' _ y' t' rs' p [k] (g.trans (Grow.more M)) (CA1.more M) O1 (grow_free g np) upd_same e
/-- the calendar stays, the answer is a new list -/
theorem Goes.stay {A : Ad} {c : Addr} {y : CA} {F H : Hp} {Q : VK} {t : List Nat} {rs : List (Cl09.Date × Bool)} {ans : List Int} {p : Addr} {H' : Hp} (G : Goes A c y F H Q (stOf t rs, ans)) (CA0 : CalAt A.c_Calendar A.c_Date F H c y t rs) (O : CalOk t rs) (s : Same H H') (np : H p = none) (hp : H' p = some (.lst (ans.map V.int))) : Q (.ref p) H' :=
  G F H' y t rs p ans (Grow.more (More.same CA0.sm s)) (CA0.more (More.same CA0.sm s)) O np hp rfl
theorem text_len {t : List Nat} {rs : List (Cl09.Date × Bool)} (O : CalOk t rs) : (Cl09.text ⟨t, rs.map (·.1)⟩).length ≤ 1760000 := by
  have wfd : ∀ d ∈ rs.map (·.1), WF d := fun d hd => by
    obtain ⟨q, hq, rfl⟩ := List.mem_map.mp hd
    exact O.wf q hq
  have cl := calL_ok O.tl (by rw [List.length_map]; exact O.dl) wfd
  have fc := flat_cut _ cl.2
  show ((calL t (rs.map (·.1))).flatMap fun l => Cl09.cut l ++ [10]).length ≤ _
  have := cl.1
  omega
theorem nv_ints (l : List Nat) : nv l = (Cl09.nums l).map V.int := by
  unfold nv Cl09.nums
  rw [List.map_map]
  rfl
theorem wf_blank {d m : Nat} (h1 : d < 36525) (h2 : m < 1440) : WF { Cl09.blank with day := d, minute := m } :=
  { WF.blank with dy := h1, mi := h2 }
theorem sp_add {t : List Nat} {rs : List (Cl09.Date × Bool)} (y m d mi : Nat) : Cl09.step (stOf t rs) (.add y m d mi) = (stOf t (gAdd rs y m d mi).2, [(gAdd rs y m d mi).1]) := by
  have e0 : Cl09.step (stOf t rs) (.add y m d mi) = if y < 2000 ∨ (Cl01.isDate (y - 2000) m d = false ∨ 1440 ≤ mi) then (stOf t rs, [-1]) else if 6 ≤ (stOf t rs).dates.length then (stOf t rs, [-5]) else ({ stOf t rs with dates := (stOf t rs).dates ++ [{ Cl09.blank with day := Cl01.dayOf (y - 2000) m d, minute := mi }] }, [((stOf t rs).dates.length : Int)]) := rfl
  have el : (stOf t rs).dates.length = rs.length := List.length_map ..
  rw [e0, el]
  unfold gAdd
  have iff1 : (dayOk y m d = false ∨ 1440 ≤ mi) ↔ (y < 2000 ∨ (Cl01.isDate (y - 2000) m d = false ∨ 1440 ≤ mi)) := by
    unfold dayOk
    rw [Bool.and_eq_false_iff, decide_eq_false_iff_not, Nat.not_le, or_assoc]
  by_cases c : dayOk y m d = false ∨ 1440 ≤ mi
  · rw [if_pos c, if_pos (iff1.mp c)]
  rw [if_neg c, if_neg fun z => c (iff1.mpr z)]
  by_cases c2 : 6 ≤ rs.length
  · rw [if_pos c2, if_pos c2]
  · rw [if_neg c2, if_neg c2]
    simp [stOf]
theorem ok_add {t : List Nat} {rs : List (Cl09.Date × Bool)} (O : CalOk t rs) (y m d mi : Nat) : CalOk t (gAdd rs y m d mi).2 := by
  unfold gAdd
  split
  · exact O
  split
  · exact O
  · rename_i h1 h2
    refine ⟨O.tl, by simp only [List.length_append, List.length_singleton]; omega, fun q hq => ?_, fun q hq => ?_⟩
    · rcases List.mem_append.mp hq with h | h
      · exact O.wf q h
      · rw [List.mem_singleton.mp h]
        refine wf_blank (dayOf_lt ?_) (by omega)
        cases e : dayOk y m d with
        | true => rfl
        | false => exact absurd (Or.inl e) h1
    · rcases List.mem_append.mp hq with h | h
      · exact O.al q h
      · rw [List.mem_singleton.mp h]
theorem st_back (s : Cl09.Cal) : stOf s.title (s.dates.map fun d => (d, true)) = s := by
  unfold stOf
  rw [List.map_map]
  have : ((·.1) ∘ fun d : Cl09.Date => (d, true)) = id := rfl
  rw [this, List.map_id]
theorem ok_back {s : Cl09.Cal} (h : COk s) : CalOk s.title (s.dates.map fun d => (d, true)) := by
  refine ⟨h.tl, by rw [List.length_map]; exact h.dl, fun q hq => ?_, fun q hq => ?_⟩
  · obtain ⟨d, hd, rfl⟩ := List.mem_map.mp hq
    exact h.wf d hd
  · obtain ⟨d, hd, rfl⟩ := List.mem_map.mp hq
    rfl
end Ct

set_option Elab.async false
set_option linter.all false
set_option maxRecDepth 100000
set_option maxHeartbeats 4000000
namespace Ct
open PySem PySem.Spec PyProof.Rows L2
/-! ### no two dates have the same numbers -/
theorem pre_inj {x y r s : List Nat} (h : x.length :: (x ++ r) = y.length :: (y ++ s)) : x = y ∧ r = s :=
  List.append_inj (List.cons.inj h).2 (List.cons.inj h).1
theorem tags_inj : ∀ {a b : List (List Nat)} {r s : List Nat}, a.length = b.length → (a.flatMap fun t => t.length :: t) ++ r = (b.flatMap fun t => t.length :: t) ++ s → a = b ∧ r = s
  | [], [], r, s, _, h => ⟨rfl, by simpa using h⟩
  | x :: a, y :: b, r, s, l, h => by
    rw [List.flatMap_cons, List.flatMap_cons, List.append_assoc, List.append_assoc] at h
    obtain ⟨rfl, h2⟩ := pre_inj h
    obtain ⟨rfl, e⟩ := tags_inj (a := a) (b := b) (by simpa using l) h2
    exact ⟨rfl, e⟩
  | [], _ :: _, _, _, l, _ => by simp at l
  | _ :: _, [], _, _, l, _ => by simp at l
theorem extra_inj : ∀ {a b : List (List Nat × List Nat)} {r s : List Nat}, a.length = b.length → (a.flatMap fun x => x.1.length :: (x.1 ++ (x.2.length :: x.2))) ++ r = (b.flatMap fun x => x.1.length :: (x.1 ++ (x.2.length :: x.2))) ++ s → a = b ∧ r = s
  | [], [], r, s, _, h => ⟨rfl, by simpa using h⟩
  | x :: a, y :: b, r, s, l, h => by
    rw [List.flatMap_cons, List.flatMap_cons, List.append_assoc, List.append_assoc] at h
    have h1 : x.1.length :: (x.1 ++ (x.2.length :: (x.2 ++ ((a.flatMap fun x => x.1.length :: (x.1 ++ (x.2.length :: x.2))) ++ r)))) = y.1.length :: (y.1 ++ (y.2.length :: (y.2 ++ ((b.flatMap fun x => x.1.length :: (x.1 ++ (x.2.length :: x.2))) ++ s)))) := by
      simpa [List.append_assoc] using h
    obtain ⟨e1, h2⟩ := pre_inj h1
    obtain ⟨e2, h3⟩ := pre_inj h2
    obtain ⟨rfl, e⟩ := extra_inj (a := a) (b := b) (by simpa using l) h3
    exact ⟨by rw [Prod.ext e1 e2], e⟩
  | [], _ :: _, _, _, l, _ => by simp at l
  | _ :: _, [], _, _, l, _ => by simp at l
theorem dateNums_inj {a b : Cl09.Date} (h : dateNums a = dateNums b) : a = b := by
  unfold dateNums at h
  simp only [List.cons_append, List.nil_append] at h
  injection h with h1 h
  injection h with h2 h
  injection h with h3 h
  obtain ⟨h4, h⟩ := pre_inj h
  obtain ⟨h5, h⟩ := pre_inj h
  injection h with h6 h
  obtain ⟨h7, h⟩ := tags_inj h6 h
  injection h with h8 h
  have h9 := (extra_inj (r := []) (s := []) h8 (by simpa using h)).1
  cases a
  cases b
  simp only [] at h1 h2 h3 h4 h5 h7 h9
  subst h1 h2 h3 h4 h5 h7 h9
  rfl
theorem numsL_inj : ∀ {a b : List Cl09.Date}, a.map dateNums = b.map dateNums → a = b
  | [], [], _ => rfl
  | x :: a, y :: b, h => by
    rw [List.map_cons, List.map_cons] at h
    injection h with h1 h2
    rw [dateNums_inj h1, numsL_inj h2]
  | [], _ :: _, h => by simp at h
  | _ :: _, [], h => by simp at h
theorem eqv_alls : ∀ a b : List (List Nat), PyData.eqvAll (a.map dn) (b.map dn) = decide (a = b)
  | [], [] => by simp [PyData.eqvAll]
  | [], _ :: _ => by simp [PyData.eqvAll]
  | _ :: _, [] => by simp [PyData.eqvAll]
  | x :: a, y :: b => by
    have ih := eqv_alls a b
    simp only [List.map_cons, PyData.eqvAll, eqv_row, ih]
    by_cases h : x = y
    · subst h
      simp
    · simp [h]
theorem eqv_rows (a b : List (List Nat)) : PyData.eqv (.list (a.map dn)) (.list (b.map dn)) = decide (a = b) := by
  simp only [PyData.eqv]
  exact eqv_alls a b
/-! ### a row that grows -/
theorem NewRow.ext {H H1 H2 : Hp} {o : Addr} {l : List Nat} (N : NewRow H H1 o l) (m : List Nat) (s : Same H1 H2) : NewRow H (upd H2 o (.lst (nv l ++ nv m))) o (l ++ m) :=
  ⟨same_set (N.sm.trans s) N.nw, N.nw, by rw [upd_same, nv_app]⟩
theorem cnt_nv (l : List Nat) : (V.int ((nv l).length : Nat) :: nv l) = nv (l.length :: l) := by
  rw [nv_len]
  rfl
theorem flat_tags {k : Nat} : ∀ {l : List (List Nat)}, (∀ t ∈ l, t.length ≤ k) → (l.flatMap fun t => t.length :: t).length ≤ (k + 1) * l.length
  | [], _ => by simp
  | t :: l, h => by
    have ih := flat_tags (l := l) fun x hx => h x (List.mem_cons_of_mem _ hx)
    have := h t (List.mem_cons_self ..)
    rw [List.flatMap_cons, List.length_append, List.length_cons, List.length_cons, Nat.mul_succ]
    omega
theorem flat_extra : ∀ {l : List (List Nat × List Nat)}, (∀ e ∈ l, e.1.length ≤ 16 ∧ e.2.length ≤ 700) → (l.flatMap fun x => x.1.length :: (x.1 ++ (x.2.length :: x.2))).length ≤ 718 * l.length
  | [], _ => by simp
  | t :: l, h => by
    have ih := flat_extra (l := l) fun x hx => h x (List.mem_cons_of_mem _ hx)
    have := h t (List.mem_cons_self ..)
    rw [List.flatMap_cons, List.length_append, List.length_cons, List.length_append, List.length_cons, List.length_cons, Nat.mul_succ]
    omega
/-- a date's numbers, as they come -/
def n1 (r : Cl09.Date) : List Nat := [r.day, r.minute, r.long] ++ (r.name.length :: r.name)
def n2 (r : Cl09.Date) : List Nat := n1 r ++ (r.rings.length :: r.rings)
def n3 (r : Cl09.Date) (i : Nat) : List Nat := n2 r ++ [r.tags.length] ++ (r.tags.take i).flatMap fun t => t.length :: t
def n4 (r : Cl09.Date) (i : Nat) : List Nat := n3 r r.tags.length ++ [r.extra.length] ++ (r.extra.take i).flatMap fun x => x.1.length :: (x.1 ++ (x.2.length :: x.2))
theorem n_all (r : Cl09.Date) : n4 r r.extra.length = dateNums r := by
  unfold n4 n3 n2 n1 dateNums
  rw [List.take_length, List.take_length]
  simp only [List.append_assoc, List.cons_append, List.nil_append]
theorem n_len {r : Cl09.Date} (W : WF r) : (n1 r).length ≤ 44 ∧ (n2 r).length ≤ 48 ∧ (∀ i, (n3 r i).length ≤ 94) ∧ ∀ i, (n4 r i).length ≤ 2249 := by
  have a1 := W.nm
  have a2 := W.rl
  have a3 := W.tl
  have a4 := W.el
  have b1 : (n1 r).length ≤ 44 := by
    unfold n1
    simp
    omega
  have b2 : (n2 r).length ≤ 48 := by
    unfold n2
    rw [List.length_append, List.length_cons]
    omega
  have b3 : ∀ i, (n3 r i).length ≤ 94 := fun i => by
    have := flat_tags (k := 8) (l := r.tags.take i) fun t ht => W.tb t (List.mem_of_mem_take ht)
    have l : (r.tags.take i).length ≤ 5 := by rw [List.length_take]; omega
    unfold n3
    rw [List.length_append, List.length_append, List.length_singleton]
    omega
  refine ⟨b1, b2, b3, fun i => ?_⟩
  have := flat_extra (l := r.extra.take i) fun t ht => W.eb t (List.mem_of_mem_take ht)
  have l : (r.extra.take i).length ≤ 3 := by rw [List.length_take]; omega
  have := b3 r.tags.length
  unfold n4
  rw [List.length_append, List.length_append, List.length_singleton]
  refine Nat.le_trans (Nat.add_le_add_left (flat_extra (l := r.extra.take i) fun t ht => W.eb t (List.mem_of_mem_take ht)) _) ?_
  omega
section
variable {P : Program} {w : World} {K : PySem.W.Frag} {mg : Str → Option Value} {base : Heap} {A : Ad}
def spCounted : Sp := fun vs H Q _ => ∃ (a : Addr) (xs : List V), vs = [.ref a] ∧ H a = some (.lst xs) ∧ xs.length ≤ 9999999 ∧ ∀ H' p, Same H H' → H p = none → H' p = some (.lst (.int (xs.length : Nat) :: xs)) → Q (.ref p) H'
theorem ok_counted (T : Txt K mg A) : FnOk P w K mg base CX0 1 A.f_counted A.d_counted ["row"] spCounted := by
  refine T.F_counted.ok sc_counted (fun vs H Q E h => ?_) (fun cdv Ar outer s H vs Q E hr h => ?_)
  · obtain ⟨a, xs, rfl, _⟩ := h
    rfl
  · obtain ⟨a, xs, rfl, ha, hl, k⟩ := h
    refine ⟨_, (pss_one (ps_ret (pe_op op_cat (pe_lst (pa_cons (pe_callB call_len_seq (by rfl) T.z_len PySem.boot_len (pa_cons (pv 0) pa_nil)) pa_nil)) (pv 0)))), ?_⟩
    refine ⟨_, rfl, a, _, rfl, .inl (SqL.of ha), sz (n := 0) (by omega), fun p2 n2 => ?_⟩
    have h1 : (upd H p2 (.lst [.int (xs.length : Nat)])) a = some (.lst xs) := by
      rw [upd_ne fun e => by rw [← e, ha] at n2; cases n2]
      exact ha
    refine ⟨_, rfl, p2, a, _, _, rfl, rfl, upd_same, h1, ?_, fun p3 n3 => ?_⟩
    · have := sz (n := 1 + xs.length) (by omega)
      exact Nat.le_of_lt this
    · have s2 := same_upd (o := .lst [.int (xs.length : Nat)]) n2
      exact k _ p3 (s2.trans (same_upd n3)) (s2.free n3) upd_same
def spNums (C : Addr) : Sp := fun vs H Q _ => ∃ (d : Addr) (x : DA) (r : Cl09.Date) (F : Hp), vs = [.ref d] ∧ Same F H ∧ DateAt C F H d x r true ∧ WF r ∧ ∀ H' p, NewRow H H' p (dateNums r) → Q (.ref p) H'
theorem ok_date_numbers (T : Txt K mg A) : FnOk P w K mg base CX0 2 A.f_date_numbers A.d_date_numbers ["date"] (spNums A.c_Date) := by
  refine T.F_date_numbers.ok sc_date_numbers (fun vs H Q E h => ?_) (fun cdv Ar outer s H vs Q E hr h => ?_)
  · obtain ⟨d, x, r, F, rfl, _⟩ := h
    rfl
  · obtain ⟨d, x, r, F, rfl, sF, D, W, k⟩ := h
    refine ⟨_, (pss_cons (ps_set (i := 1) sc_date_numbers.nd rfl (Or.inl rfl) (pe_lst (pa_cons (pe_fld (pv 0) rfl) (pa_cons (pe_fld (pv 0) rfl) (pa_cons (pe_fld (pv 0) rfl) pa_nil)))))
      (pss_cons (ps_expr (pe_bm PySem.F.plainAttrs_list PySem.F.slot_list_extend PySem.F.type_list_extend mt_extend (pv 1) (pa_cons (pe_call (ok_counted T) (hr.mono (by decide)) (by rfl) T.g_counted T.F_counted.kp (b_counted T) .nil pass0 (pa_cons (pe_fld (pv 0) rfl) pa_nil)) pa_nil)))
      (pss_cons (ps_expr (pe_bm PySem.F.plainAttrs_list PySem.F.slot_list_extend PySem.F.type_list_extend mt_extend (pv 1) (pa_cons (pe_call (ok_counted T) (hr.mono (by decide)) (by rfl) T.g_counted T.F_counted.kp (b_counted T) .nil pass0 (pa_cons (pe_fld (pv 0) rfl) pa_nil)) pa_nil)))
      (pss_cons (ps_expr (pe_bm PySem.F.plainAttrs_list PySem.F.slot_list_append PySem.F.type_list_append mt_append (pv 1) (pa_cons (pe_callB call_len_seq (by rfl) T.z_len PySem.boot_len (pa_cons (pe_fld (pv 0) rfl) pa_nil)) pa_nil)))
      (pss_cons (ps_for PassesOwn.never rfl (pi_list (pe_fld (pv 0) rfl)) (pg_name (i := 2) sc_date_numbers.nd rfl (Or.inl rfl))
        (pss_one (ps_expr (pe_bm PySem.F.plainAttrs_list PySem.F.slot_list_extend PySem.F.type_list_extend mt_extend (pv 1) (pa_cons (pe_call (ok_counted T) (hr.mono (by decide)) (by rfl) T.g_counted T.F_counted.kp (b_counted T) .nil pass0 (pa_cons (pv 2) pa_nil)) pa_nil)))))
      (pss_cons (ps_expr (pe_bm PySem.F.plainAttrs_list PySem.F.slot_list_append PySem.F.type_list_append mt_append (pv 1) (pa_cons (pe_callB call_len_seq (by rfl) T.z_len PySem.boot_len (pa_cons (pe_fld (pv 0) rfl) pa_nil)) pa_nil)))
      (pss_cons (ps_for PassesOwn.never rfl (pi_list (pe_fld (pv 0) rfl)) (pg_name (i := 3) sc_date_numbers.nd rfl (Or.inl rfl))
        (pss_cons (ps_expr (pe_bm PySem.F.plainAttrs_list PySem.F.slot_list_extend PySem.F.type_list_extend mt_extend (pv 1) (pa_cons (pe_call (ok_counted T) (hr.mono (by decide)) (by rfl) T.g_counted T.F_counted.kp (b_counted T) .nil pass0 (pa_cons (pe_ix ix_tup (pv 3) pe_int (fun _ _ => rfl)) pa_nil)) pa_nil)))
        (pss_one (ps_expr (pe_bm PySem.F.plainAttrs_list PySem.F.slot_list_extend PySem.F.type_list_extend mt_extend (pv 1) (pa_cons (pe_call (ok_counted T) (hr.mono (by decide)) (by rfl) T.g_counted T.F_counted.kp (b_counted T) .nil pass0 (pa_cons (pe_ix ix_tup (pv 3) pe_int (fun _ _ => rfl)) pa_nil)) pa_nil))))))
      (pss_one (ps_ret (pv 1)))))))))), ?_⟩
    obtain ⟨L1, L2, L3, L4⟩ := n_len W
    have wn := W.nm
    have wr := W.rl
    have wt := W.tl
    have we := W.el
    have tpl := D.tgr.len
    have opl := D.otr.len
    have szz : ∀ {n : Nat}, n ≤ 10000 → n ≤ sizeLine := fun h => Nat.le_of_lt (sz (by omega))
    refine ⟨_, rfl, d, _, _, _, _, rfl, D.ins, T.C_Date, T.n_Date_day, dFs_day, _, rfl, d, _, _, _, _, rfl, D.ins, T.C_Date, T.n_Date_minute, dFs_minute, _, rfl, d, _, _, _, _, rfl, D.ins, T.C_Date, T.n_Date_length, dFs_length, (by show 3 ≤ sizeLine; decide), fun o no => ?_⟩
    have R0 : NewRow H (upd H o (.lst [if true = true then .int (r.day : Int) else .non, if true = true then .int (r.minute : Int) else .non, .int (r.long : Int)])) o [r.day, r.minute, r.long] := ⟨same_upd no, no, upd_same⟩
    have D0 := D.more (More.same sF R0.sm)
    -- the name
    refine ⟨_, rfl, .inl ⟨rfl, _, SqL.of R0.at_⟩, _, rfl, d, _, _, _, _, rfl, D0.ins, T.C_Date, T.n_Date_name, dFs_name, x.nm, _, rfl, (sF.trans R0.sm) _ _ D.nm, by rw [nv_len]; omega, fun H1 q1 s1 m1 h1 => ?_⟩
    rw [cnt_nv] at h1
    refine ⟨o, q1, _, _, rfl, rfl, s1 _ _ R0.at_, h1, ?_, ?_⟩
    · rw [nv_len, nv_len]
      exact szz (by simp; omega)
    have R1 : NewRow H _ o (n1 r) := R0.ext (r.name.length :: r.name) s1
    have D1 := D.more (More.same sF R1.sm)
    -- the rings
    refine ⟨_, rfl, .inl ⟨rfl, _, SqL.of R1.at_⟩, _, rfl, d, _, _, _, _, rfl, D1.ins, T.C_Date, T.n_Date_rings, dFs_rings, x.rg, _, rfl, D1.rg, by rw [nv_len]; omega, fun H2 q2 s2 m2 h2 => ?_⟩
    rw [cnt_nv] at h2
    refine ⟨o, q2, _, _, rfl, rfl, s2 _ _ R1.at_, h2, ?_, ?_⟩
    · rw [nv_len, nv_len, List.length_cons]
      exact szz (by omega)
    have R2 : NewRow H _ o (n2 r) := R1.ext (r.rings.length :: r.rings) s2
    have D2 := D.more (More.same sF R2.sm)
    -- the tags
    refine ⟨_, rfl, .inl ⟨rfl, _, SqL.of R2.at_⟩, _, rfl, d, _, _, _, _, rfl, D2.ins, T.C_Date, T.n_Date_tags, dFs_tags, x.tg, _, rfl, .inl (SqL.of D2.tg), o, _, _, rfl, rfl, R2.at_, by rw [nv_len]; exact sz (by omega), ?_⟩
    have R3 : NewRow H _ o (n3 r 0) := ⟨same_set (o := .lst (nv (n2 r) ++ [.int ((x.tps.map V.ref).length : Nat)])) R2.sm no, no, by
      rw [upd_same, List.length_map, tpl]
      unfold n3
      rw [List.take_zero, List.flatMap_nil, List.append_nil, nv_app]
      rfl⟩
    have D3 := D.more (More.same sF R3.sm)
    refine ⟨_, rfl, d, _, _, _, _, rfl, D3.ins, T.C_Date, T.n_Date_tags, dFs_tags, x.tg, rfl, ⟨_, SqL.of D3.tg⟩, for_list (K := K) (a := x.tg) (xs := x.tps.map V.ref) (fun i σ' H' => ∃ v, σ' = [some (.ref d), some (.ref o), v, none] ∧ NewRow H H' o (n3 r i))
      ⟨none, rfl, R3⟩ (fun i σ' H' _ ⟨_, _, R⟩ => SqL.of (R.sm _ _ D.tg)) ?_ ?_⟩
    · rintro i y σ' H10 hy ⟨v, rfl, R10⟩
      obtain ⟨b, hb, rfl⟩ := refs_get hy
      obtain ⟨l, hl, hbl⟩ := RowsAt.get D.tgr hb
      have ll := W.tb l (List.mem_of_getElem? hl)
      have L3i := L3 i
      refine ⟨_, rfl, .inl ⟨rfl, _, SqL.of R10.at_⟩, _, rfl, b, _, rfl, (sF.trans R10.sm) _ _ hbl, by rw [nv_len]; omega, fun H11 q s m h => ?_⟩
      rw [cnt_nv] at h
      refine ⟨o, q, _, _, rfl, rfl, s _ _ R10.at_, h, ?_, ?_⟩
      · rw [nv_len, nv_len, List.length_cons]
        exact szz (by omega)
      · have Z := R10.ext (l.length :: l) s
        have e : n3 r i ++ (l.length :: l) = n3 r (i + 1) := by
          unfold n3
          rw [take_more hl, List.flatMap_append, List.append_assoc _ _ (l.length :: l)]
          simp
        refine ⟨_, rfl, ?_⟩
        rw [← e]
        exact Z
    rintro _ H4 ⟨v4, rfl, R4⟩
    rw [List.length_map, tpl] at R4
    have D4 := D.more (More.same sF R4.sm)
    -- the others
    refine ⟨_, rfl, .inl ⟨rfl, _, SqL.of R4.at_⟩, _, rfl, d, _, _, _, _, rfl, D4.ins, T.C_Date, T.n_Date_others, dFs_others, x.ot, _, rfl, .inl (SqL.of D4.ot), o, _, _, rfl, rfl, R4.at_, by rw [nv_len]; exact sz (by have := L3 r.tags.length; omega), ?_⟩
    have R5 : NewRow H _ o (n4 r 0) := ⟨same_set (o := .lst (nv (n3 r r.tags.length) ++ [.int ((x.ops.map fun o => V.ref o.1).length : Nat)])) R4.sm no, no, by
      rw [upd_same, List.length_map, opl]
      unfold n4
      rw [List.take_zero, List.flatMap_nil, List.append_nil, nv_app]
      rfl⟩
    have D5 := D.more (More.same sF R5.sm)
    refine ⟨_, rfl, d, _, _, _, _, rfl, D5.ins, T.C_Date, T.n_Date_others, dFs_others, x.ot, rfl, ⟨_, SqL.of D5.ot⟩, for_list (K := K) (a := x.ot) (xs := x.ops.map fun o => V.ref o.1) (fun i σ' H' => ∃ v, σ' = [some (.ref d), some (.ref o), v4, v] ∧ NewRow H H' o (n4 r i))
      ⟨none, rfl, R5⟩ (fun i σ' H' _ ⟨_, _, R⟩ => SqL.of (R.sm _ _ D.ot)) ?_ ?_⟩
    · rintro i y σ' H10 hy ⟨v, rfl, R10⟩
      obtain ⟨oo, ho, rfl⟩ : ∃ o, x.ops[i]? = some o ∧ y = .ref o.1 := by
        rw [List.getElem?_map] at hy
        cases e : x.ops[i]? with
        | none => rw [e] at hy; cases hy
        | some o => rw [e] at hy; exact ⟨o, rfl, (Option.some.inj hy).symm⟩
      obtain ⟨e, he, ht, ha, hb⟩ := OthersAt.get D.otr ho
      have el := W.eb e (List.mem_of_getElem? he)
      have sm := sF.trans R10.sm
      have L4i := L4 i
      refine ⟨_, rfl, .inl ⟨rfl, _, SqL.of R10.at_⟩, _, rfl, oo.1, _, 0, .ref oo.2.1, rfl, rfl, SqT.of (sm _ _ ht), atI_nat (j := 0) rfl, oo.2.1, _, rfl, sm _ _ ha, by rw [nv_len]; omega, fun H11 q s m h => ?_⟩
      rw [cnt_nv] at h
      refine ⟨o, q, _, _, rfl, rfl, s _ _ R10.at_, h, ?_, ?_⟩
      · rw [nv_len, nv_len, List.length_cons]
        exact szz (by omega)
      have R11 := R10.ext (e.1.length :: e.1) s
      have sm2 := sF.trans R11.sm
      refine ⟨_, rfl, .inl ⟨rfl, _, SqL.of R11.at_⟩, _, rfl, oo.1, _, 1, .ref oo.2.2, rfl, rfl, SqT.of (sm2 _ _ ht), atI_nat (j := 1) rfl, oo.2.2, _, rfl, sm2 _ _ hb, by rw [nv_len]; omega, fun H12 q' s' m' h' => ?_⟩
      rw [cnt_nv] at h'
      refine ⟨o, q', _, _, rfl, rfl, s' _ _ R11.at_, h', ?_, ?_⟩
      · rw [nv_len, nv_len, List.length_append, List.length_cons, List.length_cons]
        exact szz (by omega)
      · have Z := R11.ext (e.2.length :: e.2) s'
        have e4 : n4 r i ++ (e.1.length :: e.1) ++ (e.2.length :: e.2) = n4 r (i + 1) := by
          unfold n4
          rw [take_more he, List.flatMap_append]
          simp
        refine ⟨_, rfl, ?_⟩
        rw [← e4]
        exact Z
    rintro _ H6 ⟨v6, rfl, R6⟩
    rw [List.length_map, opl, n_all] at R6
    exact ⟨_, rfl, k _ o R6⟩
end
end Ct

set_option Elab.async false
set_option linter.all false
set_option maxRecDepth 100000
set_option maxHeartbeats 4000000
namespace Ct
open PySem PySem.Spec PyProof.Rows L2
section
variable {P : Program} {w : World} {K : PySem.W.Frag} {mg : Str → Option Value} {base : Heap} {A : Ad}
def spFound (A : Ad) : Sp := fun vs H Q _ => ∃ (c v : Addr) (y : CA) (t : List Nat) (rs : List (Cl09.Date × Bool)) (F : Hp) (l : List Nat), vs = [.ref c, .ref v] ∧ CalAt A.c_Calendar A.c_Date F H c y t rs ∧ CalOk t rs ∧ F v = some (.lst (nv l)) ∧ ∀ H' p, NewRow H H' p (found l 0 (rs.map (·.1))) → Q (.ref p) H'
theorem ok_dates_with_tag (T : Txt K mg A) : FnOk P w K mg base CX0 1 A.f_dates_with_tag A.d_dates_with_tag ["calendar", "given"] (spFound A) := by
  refine T.F_dates_with_tag.ok sc_dates_with_tag (fun vs H Q E h => ?_) (fun cdv Ar outer s H vs Q E hr h => ?_)
  · obtain ⟨c, v, y, t, rs, F, l, rfl, _⟩ := h
    rfl
  · obtain ⟨c, v, y, t, rs, F, l, rfl, CA0, O, hv, k⟩ := h
    refine ⟨_, (pss_one (ps_ret (pe_lc (own := [("number", 2), ("date", 3)]) (g := gTup K 2 (gCons (L2.gName 2) (gCons (L2.gName 3) gNil))) (tt := tTest (tOp (rInD K) (tVar 1) (tFld K (tVar 3) "tags"))) (by rfl) sc_dates_with_tag.nd (pi_enum (by rfl) T.z_enumerate (pa_cons (pe_fld (pv 0) rfl) pa_nil)) (blkOk_by (own := [("number", 2), ("date", 3)]) (N := ["calendar", "given", "number", "date"]) (sc := defScope s_dates_with_tag) (by decide +kernel)) (fun _ _ _ _ _ => pg_tup (by rfl) (pgs_cons (pg_name (i := 2) sc_dates_with_tag.nd rfl (Or.inl rfl)) (pgs_cons (pg_name (i := 3) sc_dates_with_tag.nd rfl (Or.inl rfl)) pgs_nil))) (fun _ _ _ _ _ => pts_one (pt_cmpR (op_inD (hu65 hr)) (pv 1) (pe_fld (pv 3) (by rfl)) (by rfl))) (fun _ _ _ _ _ => (pv 2))))), ?_⟩
    have sF := CA0.sm
    have dl := CA0.dates.len
    have odl := O.dl
    refine ⟨_, rfl, c, _, _, _, _, rfl, CA0.ins, T.C_Calendar, T.n_Calendar_dates, cFs_dates, y.ds, _, rfl, SqL.of CA0.ds, fun D nD => ?_⟩
    refine lc_it (walk_enum (K := K) (a := y.ds) (xs := y.das.map fun p => V.ref p.1)) (fun i H' => NewRow H H' D (found l 0 ((rs.map (·.1)).take i))) ⟨same_upd nD, nD, by rw [upd_same, List.take_zero]; rfl⟩ (fun i H' _ N => SqL.of (N.sm _ _ CA0.ds)) ?_ ?_
    · rintro i v0 H1 H2 hi N ⟨Tt, v1, v2, rfl, nT, rfl, e1, e2⟩
      obtain rfl := Option.some.inj e1
      obtain ⟨⟨da, x⟩, hp, rfl⟩ := das_get e2
      obtain ⟨⟨r, has⟩, hq, DD⟩ := DatesAt.at CA0.dates hp
      have sm := N.sm.trans (same_upd (o := .tup [.int (i : Nat), .ref da]) nT)
      have M := More.same sF sm
      have D1 := DD.more M
      have hr : (rs.map (·.1))[i]? = some r := by rw [List.getElem?_map, hq]; rfl
      have fs := found_snoc l r ((rs.map (·.1)).take i) 0
      have tl : ((rs.map (·.1)).take i).length = i := by
        rw [List.length_take, List.length_map]
        rw [List.length_map, dl] at hi
        omega
      rw [← take_more hr, tl, Nat.zero_add] at fs
      refine ⟨Tt, _, rfl, SqT.of upd_same, rfl, _, _, rfl, _, _, rfl, rfl, rfl, ?_⟩
      refine ⟨_, rfl, _, rfl, da, _, _, _, _, rfl, D1.ins, T.C_Date, T.n_Date_tags, dFs_tags, dn l, r.tags.map dn, dp_row (M.sm _ _ hv), .lst (SqL.of D1.tg) (dpAll_rows (DD.tgr.same M.sm)), sh_row _, sh_rows _, _, rfl, ?_⟩
      rw [any_row]
      refine ite2 (fun z => ?_) (fun z => ?_)
      · have z1 := of_decide_eq_true z
        rw [if_pos (by simpa using z1)] at fs
        have hD : (upd H1 Tt (.tup [.int (i : Nat), .ref da])) D = some (.lst (nv (found l 0 ((rs.map (·.1)).take i)))) := same_upd nT _ _ N.at_
        have fl := found_len l ((rs.map (·.1)).take i) 0
        refine ⟨_, rfl, _, hD, ?_, ⟨same_set sm nD, nD, ?_⟩⟩
        · rw [nv_len]
          refine sz ?_
          rw [List.length_map, dl] at hi
          omega
        · rw [upd_same, fs, nv_app]
          rfl
      · have z1 : ¬ l ∈ r.tags := fun q => z (decide_eq_true q)
        rw [if_neg (by simpa using z1), List.append_nil] at fs
        refine ⟨sm, nD, ?_⟩
        rw [fs]
        exact same_upd nT _ _ N.at_
    · intro H1 N
      refine k H1 D ?_
      have e : (rs.map (·.1)).take (y.das.map fun p => V.ref p.1).length = rs.map (·.1) := by
        rw [List.length_map, dl, ← List.length_map (as := rs) (f := fun q : Cl09.Date × Bool => q.1), List.take_length]
      rw [e] at N
      exact N
/-! ### the same -/
def spSame (A : Ad) : Sp := fun vs H Q _ => ∃ (c d : Addr) (y z : CA) (t u : List Nat) (rs ss : List (Cl09.Date × Bool)) (F : Hp), vs = [.ref c, .ref d] ∧ CalAt A.c_Calendar A.c_Date F H c y t rs ∧ CalOk t rs ∧ CalAt A.c_Calendar A.c_Date F H d z u ss ∧ CalOk u ss ∧
  ∀ H', Same H H' → Q (.bl (decide (t = u ∧ rs.map (·.1) = ss.map (·.1)))) H'
theorem ok_has_the_same (T : Txt K mg A) : FnOk P w K mg base CX0 3 A.f_has_the_same A.d_has_the_same ["calendar", "another"] (spSame A) := by
  refine T.F_has_the_same.ok sc_has_the_same (fun vs H Q E h => ?_) (fun cdv Ar outer s H vs Q E hr h => ?_)
  · obtain ⟨c, d, y, z, t, u, rs, ss, F, rfl, _⟩ := h
    rfl
  · obtain ⟨c, d, y, z, t, u, rs, ss, F, rfl, C1, O1, C2, O2, k⟩ := h
    refine ⟨_, (pss_cons (ps_if (pt_cmpR (op_neD hr.units) (pe_fld (pv 0) rfl) (pe_fld (pv 1) rfl) (nomark _))
        (pss_one (ps_ret pe_bl))
        pss_nil)
      (pss_one (ps_ret (pe_cmpR (op_eqD hr.units) (pe_lc (own := [("date", 2)]) (g := L2.gName 2) (tt := tYes) (by rfl) sc_has_the_same.nd (pi_list (pe_fld (pv 0) rfl)) (blkOk_by (own := [("date", 2)]) (N := ["calendar", "another", "date"]) (sc := defScope s_has_the_same) (by decide +kernel)) (fun _ _ _ _ _ => pg_name (i := 2) sc_has_the_same.nd rfl (Or.inl rfl)) (fun _ _ _ _ _ => pts_nil) (fun _ _ _ _ _ => (pe_call (ok_date_numbers T) (hr.mono (by decide)) (by rfl) T.g_date_numbers T.F_date_numbers.kp (b_date_numbers T) .nil pass0 (pa_cons (pv 2) pa_nil)))) (pe_lc (own := [("date", 2)]) (g := L2.gName 2) (tt := tYes) (by rfl) sc_has_the_same.nd (pi_list (pe_fld (pv 1) rfl)) (blkOk_by (own := [("date", 2)]) (N := ["calendar", "another", "date"]) (sc := defScope s_has_the_same) (by decide +kernel)) (fun _ _ _ _ _ => pg_name (i := 2) sc_has_the_same.nd rfl (Or.inl rfl)) (fun _ _ _ _ _ => pts_nil) (fun _ _ _ _ _ => (pe_call (ok_date_numbers T) (hr.mono (by decide)) (by rfl) T.g_date_numbers T.F_date_numbers.kp (b_date_numbers T) .nil pass0 (pa_cons (pv 2) pa_nil)))) (nomark _))))), ?_⟩
    have sF := C1.sm
    refine ⟨_, rfl, c, _, _, _, _, rfl, C1.ins, T.C_Calendar, T.n_Calendar_title, cFs_title, _, rfl, d, _, _, _, _, rfl, C2.ins, T.C_Calendar, T.n_Calendar_title, cFs_title, dn t, dn u, dp_row (sF _ _ C1.tt), dp_row (sF _ _ C2.tt), sh_row _, sh_row _, _, rfl, ?_⟩
    rw [eqv_row]
    by_cases e : t = u
    rotate_left
    · rw [decide_eq_false e]
      have q := k H (Same.refl H)
      rw [decide_eq_false fun z => e z.1] at q
      exact iteT q
    rw [decide_eq_true e]
    refine iteF ?_
    have d1 := C1.dates.len
    have d2 := C2.dates.len
    have o1 := O1.dl
    have o2 := O2.dl
    have full : ∀ {y : CA} {rs : List (Cl09.Date × Bool)}, y.das.length = rs.length → (rs.map (·.1)).take (y.das.map fun p => V.ref p.1).length = rs.map (·.1) := fun {y rs} dl => by
      rw [List.length_map, dl, ← List.length_map (as := rs) (f := fun q : Cl09.Date × Bool => q.1), List.take_length]
    refine ⟨_, rfl, c, _, _, _, _, rfl, C1.ins, T.C_Calendar, T.n_Calendar_dates, cFs_dates, y.ds, rfl, ⟨_, SqL.of C1.ds⟩, fun D nD => ?_⟩
    refine lc_list (K := K) (a := y.ds) (xs := y.das.map fun p => V.ref p.1) (fun i H' => ∃ ps, NewRows H H' D ps (((rs.map (·.1)).take i).map dateNums)) ⟨[], ⟨same_upd nD, nD, upd_same, by simp, by simp, trivial⟩⟩ (fun i H' _ ⟨_, N⟩ => SqL.of (N.sm _ _ C1.ds)) ?_ ?_
    · rintro i v H1 hv ⟨ps, R⟩
      obtain ⟨⟨da, x⟩, hp, rfl⟩ := das_get hv
      obtain ⟨⟨r, has⟩, hq, DD⟩ := DatesAt.at C1.dates hp
      have mq := List.mem_of_getElem? hq
      have hh : has = true := O1.al _ mq
      subst hh
      have M := More.same sF R.sm
      have rl := R.rows.len
      have hr : (rs.map (·.1))[i]? = some r := by rw [List.getElem?_map, hq]; rfl
      refine ⟨rfl, _, rfl, da, x, r, F, rfl, M.sm, DD.more M, O1.wf _ mq, fun H2 p2 N2 => ⟨_, (R.later N2.sm).at_, ?_, ps ++ [p2], ?_⟩⟩
      · rw [List.length_map, rl, List.length_map, List.length_take, List.length_map]
        exact sz (by omega)
      · have Z := R.push N2
        rw [take_more hr, List.map_append]
        exact Z
    rintro H1 ⟨ps1, R1⟩
    rw [full d1] at R1
    have M1 := More.same sF R1.sm
    have C21 := C2.more M1
    refine ⟨_, rfl, d, _, _, _, _, rfl, C21.ins, T.C_Calendar, T.n_Calendar_dates, cFs_dates, z.ds, rfl, ⟨_, SqL.of C21.ds⟩, fun D2 nD2 => ?_⟩
    refine lc_list (K := K) (a := z.ds) (xs := z.das.map fun p => V.ref p.1) (fun i H' => ∃ ps, NewRows H1 H' D2 ps (((ss.map (·.1)).take i).map dateNums)) ⟨[], ⟨same_upd nD2, nD2, upd_same, by simp, by simp, trivial⟩⟩ (fun i H' _ ⟨_, N⟩ => SqL.of (N.sm _ _ C21.ds)) ?_ ?_
    · rintro i v H2 hv ⟨ps, R⟩
      obtain ⟨⟨da, x⟩, hp, rfl⟩ := das_get hv
      obtain ⟨⟨r, has⟩, hq, DD⟩ := DatesAt.at C21.dates hp
      have mq := List.mem_of_getElem? hq
      have hh : has = true := O2.al _ mq
      subst hh
      have M := More.same M1.sm R.sm
      have rl := R.rows.len
      have hr : (ss.map (·.1))[i]? = some r := by rw [List.getElem?_map, hq]; rfl
      refine ⟨rfl, _, rfl, da, x, r, F, rfl, M.sm, DD.more M, O2.wf _ mq, fun H3 p3 N3 => ⟨_, (R.later N3.sm).at_, ?_, ps ++ [p3], ?_⟩⟩
      · rw [List.length_map, rl, List.length_map, List.length_take, List.length_map]
        exact sz (by omega)
      · have Z := R.push N3
        rw [take_more hr, List.map_append]
        exact Z
    rintro H2 ⟨ps2, R2⟩
    rw [full d2] at R2
    refine ⟨.list (((rs.map (·.1)).map dateNums).map dn), .list (((ss.map (·.1)).map dateNums).map dn), .lst (SqL.of (R2.sm _ _ R1.at_)) (dpAll_rows (R1.rows.same R2.sm)), .lst (SqL.of R2.at_) (dpAll_rows R2.rows), sh_rows _, sh_rows _, ?_⟩
    rw [eqv_rows]
    refine qb (k H2 (R1.sm.trans R2.sm)) ?_
    rw [Bool.eq_iff_iff, decide_eq_true_iff, decide_eq_true_iff]
    exact ⟨fun q => ⟨e, numsL_inj q⟩, fun q => by rw [q.2]⟩
def sameI (t : List Nat) (rs : List (Cl09.Date × Bool)) (l : List Nat) : Int := match Cl09.read l with
  | .error e => faultI e
  | .ok s => if s = stOf t rs then 1 else 0
def spCompare (A : Ad) : Sp := fun vs H Q _ => ∃ (c v : Addr) (y : CA) (t : List Nat) (rs : List (Cl09.Date × Bool)) (F : Hp) (l : List Nat), vs = [.ref c, .ref v] ∧ CalAt A.c_Calendar A.c_Date F H c y t rs ∧ CalOk t rs ∧ F v = some (.lst (nv l)) ∧ l.length ≤ 700 ∧
  ∀ F' H', More F H F' H' → Q (.int (sameI t rs l)) H'
theorem ok_compare (T : Txt K mg A) : FnOk P w K mg base CX0 9 A.f_compare A.d_compare ["calendar", "text"] (spCompare A) := by
  refine T.F_compare.ok sc_compare (fun vs H Q E h => ?_) (fun cdv Ar outer s H vs Q E hr h => ?_)
  · obtain ⟨c, v, y, t, rs, F, l, rfl, _⟩ := h
    rfl
  · obtain ⟨c, v, y, t, rs, F, l, rfl, CA0, O, hv, hl, k⟩ := h
    refine ⟨_, (pss_cons (ps_set (i := 2) sc_compare.nd rfl (Or.inl rfl) (pe_call (ok_read T) (hr.mono (by decide)) (by rfl) T.g_read T.F_read.kp (b_read T) .nil pass0 (pa_cons (pv 1) pa_nil)))
      (pss_cons (ps_if (pt_cmpR op_lt (pe_fld (pv 2) rfl) pe_int (nomark _))
        (pss_one (ps_ret (pe_fld (pv 2) rfl)))
        pss_nil)
      (pss_one (ps_ret (pe_ifExp (pt_val (pe_call (ok_has_the_same T) (hr.mono (by decide)) (by rfl) T.g_has_the_same T.F_has_the_same.kp (b_has_the_same T) .nil pass0 (pa_cons (pv 0) (pa_cons (pe_fld (pv 2) rfl) pa_nil)))) pe_int pe_int))))), ?_⟩
    have sF := CA0.sm
    refine ⟨_, rfl, v, l, F, rfl, sF, sF _ _ hv, hl, fun F1 H1 p z t1 rs1 b1 f1 M1 fresh R res => ?_⟩
    have CA1 := CA0.more M1
    refine ⟨_, rfl, p, _, _, _, _, rfl, R.ins, T.C_Reading, T.n_Reading_fault, rFs_fault, _, _, rfl, rfl, _, rfl, ?_⟩
    unfold readRes at res
    unfold sameI at k
    cases er : Cl09.read l with
    | error e =>
      rw [er] at res k
      subst res
      refine if_true_of (decide_eq_true (fault_neg e)) ?_
      refine ⟨_, rfl, p, _, _, _, _, rfl, R.ins, T.C_Reading, T.n_Reading_fault, rFs_fault, ?_⟩
      exact k F1 H1 M1
    | ok s =>
      rw [er] at res k
      obtain ⟨rfl, rfl, rfl, ok⟩ := res
      refine if_false_of (decide_eq_false (by decide)) ?_
      refine ⟨_, rfl, _, rfl, p, _, _, _, _, rfl, R.ins, T.C_Reading, T.n_Reading_calendar, rFs_calendar, c, z.c, y, z.y, t, s.title, rs, s.dates.map (fun d => (d, true)), F1, rfl, CA1, O, R.cal, ok_back ok, fun H2 s2 => ?_⟩
      have M2 := M1.trans (More.same M1.sm s2)
      have q := k F1 H2 M2
      have eb : (s.dates.map fun d => (d, true)).map (fun q : Cl09.Date × Bool => q.1) = s.dates := by
        rw [List.map_map]
        have : ((·.1) ∘ fun d : Cl09.Date => (d, true)) = id := rfl
        rw [this, List.map_id]
      rw [eb]
      refine ⟨_, rfl, ite2 (fun z => ?_) (fun z => ?_)⟩
      · have z1 := of_decide_eq_true z
        have e : s = stOf t rs := by
          cases s
          unfold stOf
          rw [z1.1, z1.2]
        simp only [] at q
        rw [if_pos e] at q
        exact q
      · have e : ¬ s = stOf t rs := fun e => z (decide_eq_true (by rw [e]; exact ⟨rfl, rfl⟩))
        simp only [] at q
        rw [if_neg e] at q
        exact q
/-! ### cut, drop, title -/
def cutI (l : List Nat) : List Int := if l.contains 10 = true then [-1] else Cl09.bytes (Cl09.cut l)
def spCutG : Sp := fun vs H Q _ => ∃ (a : Addr) (l : List Nat), vs = [.ref a] ∧ H a = some (.lst (nv l)) ∧ l.length ≤ 700 ∧ ∀ H' p, Same H H' → H p = none → H' p = some (.lst ((cutI l).map V.int)) → Q (.ref p) H'
theorem ok_cut_given (T : Txt K mg A) : FnOk P w K mg base CX0 2 A.f_cut_given A.d_cut_given ["line"] spCutG := by
  refine T.F_cut_given.ok sc_cut_given (fun vs H Q E h => ?_) (fun cdv Ar outer s H vs Q E hr h => ?_)
  · obtain ⟨a, l, rfl, _⟩ := h
    rfl
  · obtain ⟨a, l, rfl, ha, hl, k⟩ := h
    refine ⟨_, (pss_cons (ps_if (pt_cmpR op_in_seq (pe_gi T.g_NEWLINE) (pv 0) (by rfl))
        (pss_one (ps_ret (pe_lst (pa_cons (pe_gi T.g_WRONG) pa_nil))))
        pss_nil)
      (pss_one (ps_ret (pe_call (ok_counted T) (hr.mono (by decide)) (by rfl) T.g_counted T.F_counted.kp (b_counted T) .nil pass0 (pa_cons (pe_call (ok_cut_line T) (hr.mono (by decide)) (by rfl) T.g_cut_line T.F_cut_line.kp (b_cut_line T) .nil pass0 (pa_cons (pv 0) pa_nil)) pa_nil))))), ?_⟩
    refine ⟨_, rfl, a, _, rfl, .inl (SqL.of ha), rfl, flat_nv _, _, rfl, ?_⟩
    show if inV (.int 10) (nv l) = true then _ else _
    rw [show inV (.int 10) (nv l) = decide (10 ∈ l) from inV_nv 10 l]
    unfold cutI at k
    refine ite2 (fun z => ?_) (fun z => ?_)
    · have z1 := of_decide_eq_true z
      rw [if_pos (by simpa using z1)] at k
      exact ⟨by decide, fun p np => k _ p (same_upd np) np upd_same⟩
    · have z1 : ¬ 10 ∈ l := fun q => z (decide_eq_true q)
      rw [if_neg (by simpa using z1)] at k
      have cl := cut_len l
      refine ⟨_, rfl, a, l, rfl, ha, by omega, fun H1 p1 N1 => ?_⟩
      refine ⟨p1, _, rfl, N1.at_, by rw [nv_len]; omega, fun H2 p2 s2 m2 h2 => ?_⟩
      refine k H2 p2 (N1.sm.trans s2) (N1.sm.free m2) ?_
      rw [h2, cnt_nv, nv_ints]
      rfl
def spDrop (A : Ad) : Sp := fun vs H Q _ => ∃ (c : Addr) (y : CA) (t : List Nat) (rs : List (Cl09.Date × Bool)) (F : Hp) (pre post : List (Addr × DA)) (d : Addr) (x : DA) (rp rq : List (Cl09.Date × Bool)) (r : Cl09.Date × Bool), vs = [.ref c, .int (pre.length : Nat)] ∧ CalAt A.c_Calendar A.c_Date F H c y t rs ∧ CalOk t rs ∧
  y.das = pre ++ (d, x) :: post ∧ rs = rp ++ r :: rq ∧ rp.length = pre.length ∧ PostC A c y F H Q ((rp ++ rq).length : Nat) t (rp ++ rq)
theorem ok_drop_date (T : Txt K mg A) : FnOk P w K mg base CX0 1 A.f_drop_date A.d_drop_date ["calendar", "which"] (spDrop A) := by
  refine T.F_drop_date.ok sc_drop_date (fun vs H Q E h => ?_) (fun cdv Ar outer s H vs Q E hr h => ?_)
  · obtain ⟨c, y, t, rs, F, pre, post, d, x, rp, rq, r, rfl, _⟩ := h
    rfl
  · obtain ⟨c, y, t, rs, F, pre, post, d, x, rp, rq, r, rfl, CA0, O, hd, hr, hl, k⟩ := h
    refine ⟨_, (pss_cons (ps_expr (pe_bm PySem.F.plainAttrs_list PySem.F.slot_list_pop PySem.F.type_list_pop mt_popAt (pe_fld (pv 0) rfl) (pa_cons (pv 1) pa_nil)))
      (pss_one (ps_ret (pe_callB call_len_seq (by rfl) T.z_len PySem.boot_len (pa_cons (pe_fld (pv 0) rfl) pa_nil))))), ?_⟩
    have dl := CA0.dates.len
    have odl := O.dl
    have pl : pre.length < rs.length := by rw [hr, List.length_append, List.length_cons]; omega
    have K := CA0.drop hd hr hl
    refine ⟨_, rfl, c, _, _, _, _, rfl, CA0.ins, T.C_Calendar, T.n_Calendar_dates, cFs_dates, .inl ⟨rfl, _, SqL.of CA0.ds⟩, _, rfl, y.ds, _, _, pre.length, .ref d, rfl, rfl, CA0.ds, by omega, by omega, ?_, ?_, ?_⟩
    · rw [seqIndex_of (by omega) (by rw [List.length_map]; omega)]
      rfl
    · rw [hd, List.map_append, List.getElem?_append_right (by rw [List.length_map]; omega), List.length_map, Nat.sub_self]
      rfl
    have e : (y.das.map fun p => V.ref p.1).eraseIdx pre.length = (pre ++ post).map fun p => V.ref p.1 := by
      rw [hd, map_erase, erase_mid]
    rw [e]
    refine ⟨_, rfl, c, _, _, _, _, rfl, K.1.ins, T.C_Calendar, T.n_Calendar_dates, cFs_dates, y.ds, _, rfl, .inl (SqL.of upd_same), qi (k _ _ _ K.2 K.1) ?_⟩
    have := K.1.dates.len
    rw [List.length_map]
    exact congrArg _ this
def spTitleG (A : Ad) : Sp := fun vs H Q _ => ∃ (c v : Addr) (y : CA) (t : List Nat) (rs : List (Cl09.Date × Bool)) (F : Hp) (l : List Nat), vs = [.ref c, .ref v] ∧ CalAt A.c_Calendar A.c_Date F H c y t rs ∧ F v = some (.lst (nv l)) ∧ l.length ≤ 700 ∧ PostC A c y F H Q (gTitle t l).1 (gTitle t l).2 rs
theorem ok_set_title (T : Txt K mg A) : FnOk P w K mg base CX0 3 A.f_set_title A.d_set_title ["calendar", "given"] (spTitleG A) := by
  refine T.F_set_title.ok sc_set_title (fun vs H Q E h => ?_) (fun cdv Ar outer s H vs Q E hr h => ?_)
  · obtain ⟨c, v, y, t, rs, F, l, rfl, _⟩ := h
    rfl
  · obtain ⟨c, v, y, t, rs, F, l, rfl, CA0, hv, hl, k⟩ := h
    refine ⟨_, (pss_cons (ps_if (pt_not (pt_val (pe_call (ok_is_name T) (hr.mono (by decide)) (by rfl) T.g_is_name T.F_is_name.kp (b_is_name T) .nil pass0 (pa_cons (pv 1) pa_nil))))
        (pss_one (ps_ret (pe_gi T.g_WRONG)))
        pss_nil)
      (pss_cons (ps_set (i := 2) sc_set_title.nd rfl (Or.inl rfl) (pe_callB call_len_seq (by rfl) T.z_len PySem.boot_len (pa_cons (pe_fld (pv 0) rfl) pa_nil)))
      (pss_cons (ps_fld (pv 0) (pe_callTy call_list_of (by rfl) T.z_list (by decide +kernel) (pa_cons (pv 1) pa_nil)) rfl)
      (pss_one (ps_ret (pv 2)))))), ?_⟩
    have sF := CA0.sm
    refine ⟨_, rfl, v, l, rfl, sF _ _ hv, by omega, fun H1 s1 => ⟨_, rfl, ?_⟩⟩
    have M1 := More.same sF s1
    have CA1 := CA0.more M1
    cases hi : Cl09.isName l with
    | false =>
      have e : gTitle t l = (-1, t) := if_pos hi
      rw [e] at k
      exact iteT (k F H1 y (Grow.more M1) CA1)
    | true =>
      have e : gTitle t l = ((t.length : Int), l) := if_neg (by rw [hi]; decide)
      rw [e] at k
      refine iteF ?_
      refine ⟨_, rfl, c, _, _, _, _, rfl, CA1.ins, T.C_Calendar, T.n_Calendar_title, cFs_title, y.tt, _, rfl, .inl (SqL.of (M1.sm _ _ CA1.tt)), ?_⟩
      refine ⟨_, rfl, v, _, rfl, .inl (SqL.of (M1.sm _ _ hv)), fun p np => ?_⟩
      have M2 := M1.trans (More.freeze M1.sm (same_upd np) np (upd_same (H := H1) (a := p) (o := .lst (nv l))))
      have CA2 := CA0.more M2
      refine ⟨_, rfl, c, _, _, _, rfl, CA2.ins, T.C_Calendar, T.n_Calendar_title, cFs_len _ _, ?_⟩
      have Z := CA0.title (t' := l) M2 (p := p) upd_same
      rw [put_title]
      refine ⟨_, rfl, ?_⟩
      rw [nv_len]
      exact k _ _ _ Z.2 Z.1
end
end Ct

set_option Elab.async false
set_option linter.all false
set_option maxRecDepth 100000
set_option maxHeartbeats 4000000
namespace Ct
open PySem PySem.Spec PyProof.Rows L2
section
variable {P : Program} {w : World} {K : PySem.W.Frag} {mg : Str → Option Value} {base : Heap} {A : Ad}
def spAbout (A : Ad) : Sp := fun vs H Q _ => ∃ (c na ra : Addr) (y : CA) (t : List Nat) (rs : List (Cl09.Date × Bool)) (F : Hp) (p : Nat) (xs : List Nat) (rps : List Addr) (rows : List (List Nat)), vs = [.ref c, .int (p : Int), .ref na, .ref ra] ∧ CalAt A.c_Calendar A.c_Date F H c y t rs ∧ CalOk t rs ∧ F na = some (.lst (nv xs)) ∧ F ra = some (.lst (rps.map V.ref)) ∧ RowsAt F rps rows ∧ Shaped p xs rows ∧ 3 ≤ p ∧ p ≤ 9 ∧
  Goes A c y F H Q (stepOf t rs p xs rows)
theorem ok_answer_about_date (T : Txt K mg A) : FnOk P w K mg base CX0 5 A.f_answer_about_date A.d_answer_about_date ["calendar", "call", "numbers", "rows"] (spAbout A) := by
  refine T.F_answer_about_date.ok sc_answer_about_date (fun vs H Q E h => ?_) (fun cdv Ar outer s H vs Q E hr h => ?_)
  · obtain ⟨c, na, ra, y, t, rs, F, p, xs, rps, rows, rfl, _⟩ := h
    rfl
  · obtain ⟨c, na, ra, y, t, rs, F, p, xs, rps, rows, rfl, CA0, O, hna, hra, hrows, S, p3, p7, G⟩ := h
    refine ⟨_, (pss_cons (ps_set (i := 4) sc_answer_about_date.nd rfl (Or.inl rfl) (pe_ix ix_list (pv 2) pe_int (fun _ _ => rfl)))
      (pss_cons (ps_if (pt_cmpR op_ge (pv 4) (pe_callB call_len_seq (by rfl) T.z_len PySem.boot_len (pa_cons (pe_fld (pv 0) rfl) pa_nil)) (nomark _))
        (pss_one (ps_ret (pe_lst (pa_cons (pe_gi T.g_NO_DATE) pa_nil))))
        pss_nil)
      (pss_cons (ps_set (i := 5) sc_answer_about_date.nd rfl (Or.inl rfl) (pe_ix ix_list (pe_fld (pv 0) rfl) (pv 4) (fun _ _ => rfl)))
      (pss_cons (ps_if (pt_cmpR op_eq (pv 1) (pe_gi T.g_NAME) (nomark _))
        (pss_one (ps_ret (pe_lst (pa_cons (pe_call (ok_set_name T) (hr.mono (by decide)) (by rfl) T.g_set_name T.F_set_name.kp (b_set_name T) .nil pass0 (pa_cons (pv 5) (pa_cons (pe_ix ix_list (pv 3) pe_int (fun _ _ => rfl)) pa_nil))) pa_nil))))
        pss_nil)
      (pss_cons (ps_if (pt_cmpR op_eq (pv 1) (pe_gi T.g_LONG) (nomark _))
        (pss_one (ps_ret (pe_lst (pa_cons (pe_call (ok_set_length T) (hr.mono (by decide)) (by rfl) T.g_set_length T.F_set_length.kp (b_set_length T) .nil pass0 (pa_cons (pv 5) (pa_cons (pe_ix ix_list (pv 2) pe_int (fun _ _ => rfl)) pa_nil))) pa_nil))))
        pss_nil)
      (pss_cons (ps_if (pt_cmpR op_eq (pv 1) (pe_gi T.g_RING) (nomark _))
        (pss_one (ps_ret (pe_lst (pa_cons (pe_call (ok_switch_ring T) (hr.mono (by decide)) (by rfl) T.g_switch_ring T.F_switch_ring.kp (b_switch_ring T) .nil pass0 (pa_cons (pv 5) (pa_cons (pe_ix ix_list (pv 2) pe_int (fun _ _ => rfl)) pa_nil))) pa_nil))))
        pss_nil)
      (pss_cons (ps_if (pt_cmpR op_eq (pv 1) (pe_gi T.g_TAG) (nomark _))
        (pss_one (ps_ret (pe_lst (pa_cons (pe_call (ok_switch_tag T) (hr.mono (by decide)) (by rfl) T.g_switch_tag T.F_switch_tag.kp (b_switch_tag T) .nil pass0 (pa_cons (pv 5) (pa_cons (pe_ix ix_list (pv 3) pe_int (fun _ _ => rfl)) pa_nil))) pa_nil))))
        pss_nil)
      (pss_cons (ps_if (pt_cmpR op_eq (pv 1) (pe_gi T.g_OTHER) (nomark _))
        (pss_one (ps_ret (pe_lst (pa_cons (pe_call (ok_add_other T) (hr.mono (by decide)) (by rfl) T.g_add_other T.F_add_other.kp (b_add_other T) .nil pass0 (pa_cons (pv 5) (pa_cons (pe_ix ix_list (pv 3) pe_int (fun _ _ => rfl)) (pa_cons (pe_ix ix_list (pv 3) pe_int (fun _ _ => rfl)) pa_nil)))) pa_nil))))
        pss_nil)
      (pss_cons (ps_if (pt_cmpR op_eq (pv 1) (pe_gi T.g_DROP) (nomark _))
        (pss_one (ps_ret (pe_lst (pa_cons (pe_call (ok_drop_date T) (hr.mono (by decide)) (by rfl) T.g_drop_date T.F_drop_date.kp (b_drop_date T) .nil pass0 (pa_cons (pv 0) (pa_cons (pv 4) pa_nil))) pa_nil))))
        pss_nil)
      (pss_one (ps_ret (pe_call (ok_date_numbers T) (hr.mono (by decide)) (by rfl) T.g_date_numbers T.F_date_numbers.kp (b_date_numbers T) .nil pass0 (pa_cons (pv 5) pa_nil))))))))))))), ?_⟩
    have sF := CA0.sm
    have dl := CA0.dates.len
    obtain ⟨k, xs', rfl⟩ : ∃ k xs', xs = k :: xs' := by
      cases xs with
      | cons k xs' => exact ⟨k, xs', rfl⟩
      | nil =>
        have : p = 3 ∨ p = 4 ∨ p = 5 ∨ p = 6 ∨ p = 7 ∨ p = 8 ∨ p = 9 := by omega
        rcases this with rfl | rfl | rfl | rfl | rfl | rfl | rfl
        · have := (shape_pair S (n := 1) (k := 1) rfl).1; simp at this
        · have := (shape_pair S (n := 2) (k := 0) rfl).1; simp at this
        · have := (shape_pair S (n := 2) (k := 0) rfl).1; simp at this
        · have := (shape_pair S (n := 1) (k := 1) rfl).1; simp at this
        · have := (shape_pair S (n := 1) (k := 2) rfl).1; simp at this
        · have := (shape_pair S (n := 1) (k := 0) rfl).1; simp at this
        · have := (shape_pair S (n := 1) (k := 0) rfl).1; simp at this
    have a0 : atI (nv (k :: xs')) 0 = some (.int (k : Int)) := atI_nat (j := 0) rfl
    refine ⟨_, rfl, na, _, 0, _, rfl, rfl, SqL.of (sF _ _ hna), a0, ?_⟩
    refine ⟨_, rfl, _, rfl, c, _, _, _, _, rfl, CA0.ins, T.C_Calendar, T.n_Calendar_dates, cFs_dates, y.ds, _, rfl, .inl (SqL.of CA0.ds), _, _, rfl, rfl, _, rfl, ite2 (fun z => ?_) (fun z => ?_)⟩
    · have z1 := of_decide_eq_true z
      rw [List.length_map, dl] at z1
      have hn : (stOf t rs).dates[k]? = none := by
        show (rs.map (·.1))[k]? = none
        rw [List.getElem?_map, List.getElem?_eq_none (by omega)]
        rfl
      refine G.one F H y t rs (-3) (Grow.more (More.refl sF)) CA0 O ?_
      have : p = 3 ∨ p = 4 ∨ p = 5 ∨ p = 6 ∨ p = 7 ∨ p = 8 ∨ p = 9 := by omega
      rcases this with rfl | rfl | rfl | rfl | rfl | rfl | rfl
      · have q := shape_pair S (n := 1) (k := 1) rfl
        obtain ⟨_, e1⟩ := len1 q.1
        obtain ⟨b, rfl⟩ := len1 q.2
        cases e1
        exact step_none hn
      · have q := shape_pair S (n := 2) (k := 0) rfl
        obtain ⟨_, n, e1⟩ := len2 q.1
        obtain rfl := len0 q.2
        cases e1
        exact step_none hn
      · have q := shape_pair S (n := 2) (k := 0) rfl
        obtain ⟨_, n, e1⟩ := len2 q.1
        obtain rfl := len0 q.2
        cases e1
        exact step_none hn
      · have q := shape_pair S (n := 1) (k := 1) rfl
        obtain ⟨_, e1⟩ := len1 q.1
        obtain ⟨b, rfl⟩ := len1 q.2
        cases e1
        exact step_none hn
      · have q := shape_pair S (n := 1) (k := 2) rfl
        obtain ⟨_, e1⟩ := len1 q.1
        obtain ⟨b, d, rfl⟩ := len2 q.2
        cases e1
        exact step_none hn
      · have q := shape_pair S (n := 1) (k := 0) rfl
        obtain ⟨_, e1⟩ := len1 q.1
        obtain rfl := len0 q.2
        cases e1
        exact step_none hn
      · have q := shape_pair S (n := 1) (k := 0) rfl
        obtain ⟨_, e1⟩ := len1 q.1
        obtain rfl := len0 q.2
        cases e1
        exact step_none hn
    · have z1 : ¬ ((y.das.map fun p => V.ref p.1).length : Int) ≤ (k : Int) := fun e => z (decide_eq_true e)
      rw [List.length_map, dl] at z1
      obtain ⟨r, hr, W, ⟨pre, d, x, post, rp, rq, e1, e2, l1, l2, D⟩⟩ := at_k CA0 O (k := k) (by omega)
      have hs := st_at (t := t) hr
      have gd : atI (y.das.map fun p => V.ref p.1) (k : Int) = some (.ref d) := by
        refine atI_nat ?_
        rw [e1, List.map_append, List.getElem?_append_right (by rw [List.length_map]; omega)]
        rw [List.length_map, show k - pre.length = 0 by omega]
        rfl
      refine ⟨_, rfl, c, _, _, _, _, rfl, CA0.ins, T.C_Calendar, T.n_Calendar_dates, cFs_dates, _, rfl, y.ds, _, _, _, rfl, rfl, SqL.of CA0.ds, gd, ?_⟩
      have ne : ∀ {m : Nat}, ¬ p = m → ¬ V.int (p : Int) = V.int (m : Int) := fun h e => h (by have := V.int.inj e; omega)
      have : p = 3 ∨ p = 4 ∨ p = 5 ∨ p = 6 ∨ p = 7 ∨ p = 8 ∨ p = 9 := by omega
      rcases this with rfl | rfl | rfl | rfl | rfl | rfl | rfl
      · have q := shape_pair S (n := 1) (k := 1) rfl
        obtain ⟨_, e3⟩ := len1 q.1
        obtain ⟨b, rfl⟩ := len1 q.2
        cases e3
        obtain ⟨ba, rfl, hb⟩ := row1 hrows
        have ak := S.ak
        have ak2 : (Cl09Neutral.date (k : Int) && Cl09Neutral.bytes (zs b)) = true := ak
        rw [Bool.and_eq_true] at ak2
        have bb := bytes_of ak2.2
        refine ⟨_, rfl, rfl, _, rfl, if_true_of (decide_eq_true rfl) ?_⟩
        refine ⟨_, rfl, _, rfl, ra, _, 0, _, rfl, rfl, SqL.of (sF _ _ hra), atI_nat (j := 0) rfl, d, ba, x, r, F, b, rfl, sF, D, W, hb, by omega, ?_⟩
        refine lift_set CA0 O G.one e1 e2 l1 l2 _ (wf_name W b) ?_
        show Cl09.step (stOf t rs) (.name (k : Int).toNat (Cl09Neutral.nats (zs b))) = _
        rw [nats_zs]
        exact sp_name hs b
      · have q := shape_pair S (n := 2) (k := 0) rfl
        obtain ⟨_, n, e3⟩ := len2 q.1
        obtain rfl := len0 q.2
        cases e3
        refine ⟨_, rfl, rfl, _, rfl, if_false_of (decide_eq_false (ne (by decide))) ?_⟩
        refine ⟨_, rfl, rfl, _, rfl, if_true_of (decide_eq_true rfl) ?_⟩
        refine ⟨_, rfl, _, rfl, na, _, 1, _, rfl, rfl, SqL.of (sF _ _ hna), atI_nat (j := 1) rfl, d, n, x, r, F, rfl, sF, D, W, ?_⟩
        refine lift_set CA0 O G.one e1 e2 l1 l2 _ (wf_long W n) ?_
        exact sp_long hs n
      · have q := shape_pair S (n := 2) (k := 0) rfl
        obtain ⟨_, n, e3⟩ := len2 q.1
        obtain rfl := len0 q.2
        cases e3
        refine ⟨_, rfl, rfl, _, rfl, if_false_of (decide_eq_false (ne (by decide))) ?_⟩
        refine ⟨_, rfl, rfl, _, rfl, if_false_of (decide_eq_false (ne (by decide))) ?_⟩
        refine ⟨_, rfl, rfl, _, rfl, if_true_of (decide_eq_true rfl) ?_⟩
        refine ⟨_, rfl, _, rfl, na, _, 1, _, rfl, rfl, SqL.of (sF _ _ hna), atI_nat (j := 1) rfl, d, n, x, r, F, rfl, sF, D, W, ?_⟩
        refine lift_set CA0 O G.one e1 e2 l1 l2 _ (wf_ring W n) ?_
        exact sp_ring hs n
      · have q := shape_pair S (n := 1) (k := 1) rfl
        obtain ⟨_, e3⟩ := len1 q.1
        obtain ⟨b, rfl⟩ := len1 q.2
        cases e3
        obtain ⟨ba, rfl, hb⟩ := row1 hrows
        have ak2 : (Cl09Neutral.date (k : Int) && Cl09Neutral.bytes (zs b)) = true := S.ak
        rw [Bool.and_eq_true] at ak2
        have bb := bytes_of ak2.2
        refine ⟨_, rfl, rfl, _, rfl, if_false_of (decide_eq_false (ne (by decide))) ?_⟩
        refine ⟨_, rfl, rfl, _, rfl, if_false_of (decide_eq_false (ne (by decide))) ?_⟩
        refine ⟨_, rfl, rfl, _, rfl, if_false_of (decide_eq_false (ne (by decide))) ?_⟩
        refine ⟨_, rfl, rfl, _, rfl, if_true_of (decide_eq_true rfl) ?_⟩
        refine ⟨_, rfl, _, rfl, ra, _, 0, _, rfl, rfl, SqL.of (sF _ _ hra), atI_nat (j := 0) rfl, d, ba, x, r, F, b, rfl, sF, D, W, hb, by omega, ?_⟩
        refine lift_set CA0 O G.one e1 e2 l1 l2 _ (wf_tag W b) ?_
        show Cl09.step (stOf t rs) (.tag (k : Int).toNat (Cl09Neutral.nats (zs b))) = _
        rw [nats_zs]
        exact sp_tag hs b
      · have q := shape_pair S (n := 1) (k := 2) rfl
        obtain ⟨_, e3⟩ := len1 q.1
        obtain ⟨n, v, rfl⟩ := len2 q.2
        cases e3
        obtain ⟨ba, va, rfl, hb, hv⟩ := row2 hrows
        have ak2 : (Cl09Neutral.date (k : Int) && (Cl09Neutral.bytes (zs n) && Cl09Neutral.bytes (zs v))) = true := S.ak
        rw [Bool.and_eq_true, Bool.and_eq_true] at ak2
        have bb := bytes_of ak2.2.1
        have bv := bytes_of ak2.2.2
        refine ⟨_, rfl, rfl, _, rfl, if_false_of (decide_eq_false (ne (by decide))) ?_⟩
        refine ⟨_, rfl, rfl, _, rfl, if_false_of (decide_eq_false (ne (by decide))) ?_⟩
        refine ⟨_, rfl, rfl, _, rfl, if_false_of (decide_eq_false (ne (by decide))) ?_⟩
        refine ⟨_, rfl, rfl, _, rfl, if_false_of (decide_eq_false (ne (by decide))) ?_⟩
        refine ⟨_, rfl, rfl, _, rfl, if_true_of (decide_eq_true rfl) ?_⟩
        refine ⟨_, rfl, _, rfl, ra, _, 0, _, rfl, rfl, SqL.of (sF _ _ hra), atI_nat (j := 0) rfl, _, rfl, ra, _, 1, _, rfl, rfl, SqL.of (sF _ _ hra), atI_nat (j := 1) rfl, d, ba, va, x, r, F, n, v, rfl, sF, D, W, hb, hv, by omega, by omega, bv.2, ?_⟩
        refine lift_set CA0 O G.one e1 e2 l1 l2 _ (wf_other W n v) ?_
        show Cl09.step (stOf t rs) (.extra (k : Int).toNat (Cl09Neutral.nats (zs n)) (Cl09Neutral.nats (zs v))) = _
        rw [nats_zs, nats_zs]
        exact sp_other hs n v
      · have q := shape_pair S (n := 1) (k := 0) rfl
        obtain ⟨_, e3⟩ := len1 q.1
        obtain rfl := len0 q.2
        cases e3
        refine ⟨_, rfl, rfl, _, rfl, if_false_of (decide_eq_false (ne (by decide))) ?_⟩
        refine ⟨_, rfl, rfl, _, rfl, if_false_of (decide_eq_false (ne (by decide))) ?_⟩
        refine ⟨_, rfl, rfl, _, rfl, if_false_of (decide_eq_false (ne (by decide))) ?_⟩
        refine ⟨_, rfl, rfl, _, rfl, if_false_of (decide_eq_false (ne (by decide))) ?_⟩
        refine ⟨_, rfl, rfl, _, rfl, if_false_of (decide_eq_false (ne (by decide))) ?_⟩
        refine ⟨_, rfl, rfl, _, rfl, if_true_of (decide_eq_true rfl) ?_⟩
        subst e2
        have lk : pre.length = k := by omega
        refine ⟨_, rfl, _, rfl, c, y, t, _, F, pre, post, d, x, rp, rq, (r, true), by rw [lk]; rfl, CA0, O, e1, rfl, l1, fun F' H' y' g CA1 => ?_⟩
        exact G.one F' H' y' t _ _ g CA1 O.drop (sp_drop l2)
      · have q := shape_pair S (n := 1) (k := 0) rfl
        obtain ⟨_, e3⟩ := len1 q.1
        obtain rfl := len0 q.2
        cases e3
        refine ⟨_, rfl, rfl, _, rfl, if_false_of (decide_eq_false (ne (by decide))) ?_⟩
        refine ⟨_, rfl, rfl, _, rfl, if_false_of (decide_eq_false (ne (by decide))) ?_⟩
        refine ⟨_, rfl, rfl, _, rfl, if_false_of (decide_eq_false (ne (by decide))) ?_⟩
        refine ⟨_, rfl, rfl, _, rfl, if_false_of (decide_eq_false (ne (by decide))) ?_⟩
        refine ⟨_, rfl, rfl, _, rfl, if_false_of (decide_eq_false (ne (by decide))) ?_⟩
        refine ⟨_, rfl, rfl, _, rfl, if_false_of (decide_eq_false (ne (by decide))) ?_⟩
        refine ⟨_, rfl, d, x, r, F, rfl, sF, D, W, fun H' p1 N => ?_⟩
        have G2 : Goes A c y F H Q (stOf t rs, Cl09.nums (dateNums r)) := by
          have e9 : stepOf t rs 9 [k] [] = (stOf t rs, Cl09.nums (dateNums r)) := sp_date hs
          rw [← e9]
          exact G
        exact G2.stay CA0 O N.sm N.nw (by rw [N.at_, nv_ints])
end
end Ct

set_option Elab.async false
set_option linter.all false
set_option maxRecDepth 100000
set_option maxHeartbeats 4000000
namespace Ct
open PySem PySem.Spec PyProof.Rows L2
section
variable {P : Program} {w : World} {K : PySem.W.Frag} {mg : Str → Option Value} {base : Heap} {A : Ad}
def spAboutRow (A : Ad) : Sp := fun vs H Q _ => ∃ (c v : Addr) (y : CA) (t : List Nat) (rs : List (Cl09.Date × Bool)) (F : Hp) (p : Nat) (l : List Nat), vs = [.ref c, .int (p : Int), .ref v] ∧ CalAt A.c_Calendar A.c_Date F H c y t rs ∧ CalOk t rs ∧ F v = some (.lst (nv l)) ∧ l.length ≤ 700 ∧ (p = 0 ∨ 10 ≤ p ∧ p ≤ 14) ∧
  Goes A c y F H Q (stepOf t rs p [] [l])
theorem ok_answer_about_row (T : Txt K mg A) : FnOk P w K mg base CX0 10 A.f_answer_about_row A.d_answer_about_row ["calendar", "call", "row"] (spAboutRow A) := by
  refine T.F_answer_about_row.ok sc_answer_about_row (fun vs H Q E h => ?_) (fun cdv Ar outer s H vs Q E hr h => ?_)
  · obtain ⟨c, v, y, t, rs, F, p, l, rfl, _⟩ := h
    rfl
  · obtain ⟨c, v, y, t, rs, F, p, l, rfl, CA0, O, hv, hl, hp, G⟩ := h
    refine ⟨_, (pss_cons (ps_if (pt_cmpR op_eq (pv 1) (pe_gi T.g_LOAD) (nomark _))
        (pss_one (ps_ret (pe_lst (pa_cons (pe_call (ok_load T) (hr.mono (by decide)) (by rfl) T.g_load T.F_load.kp (b_load T) .nil pass0 (pa_cons (pv 0) (pa_cons (pv 2) pa_nil))) pa_nil))))
        pss_nil)
      (pss_cons (ps_if (pt_cmpR op_eq (pv 1) (pe_gi T.g_FIND) (nomark _))
        (pss_one (ps_ret (pe_call (ok_counted T) (hr.mono (by decide)) (by rfl) T.g_counted T.F_counted.kp (b_counted T) .nil pass0 (pa_cons (pe_call (ok_dates_with_tag T) (hr.mono (by decide)) (by rfl) T.g_dates_with_tag T.F_dates_with_tag.kp (b_dates_with_tag T) .nil pass0 (pa_cons (pv 0) (pa_cons (pv 2) pa_nil))) pa_nil))))
        pss_nil)
      (pss_cons (ps_if (pt_cmpR op_eq (pv 1) (pe_gi T.g_SAME) (nomark _))
        (pss_one (ps_ret (pe_lst (pa_cons (pe_call (ok_compare T) (hr.mono (by decide)) (by rfl) T.g_compare T.F_compare.kp (b_compare T) .nil pass0 (pa_cons (pv 0) (pa_cons (pv 2) pa_nil))) pa_nil))))
        pss_nil)
      (pss_cons (ps_if (pt_cmpR op_eq (pv 1) (pe_gi T.g_CUT) (nomark _))
        (pss_one (ps_ret (pe_call (ok_cut_given T) (hr.mono (by decide)) (by rfl) T.g_cut_given T.F_cut_given.kp (b_cut_given T) .nil pass0 (pa_cons (pv 2) pa_nil))))
        pss_nil)
      (pss_cons (ps_if (pt_cmpR op_eq (pv 1) (pe_gi T.g_JOIN) (nomark _))
        (pss_one (ps_ret (pe_call (ok_counted T) (hr.mono (by decide)) (by rfl) T.g_counted T.F_counted.kp (b_counted T) .nil pass0 (pa_cons (pe_call (ok_put_together T) (hr.mono (by decide)) (by rfl) T.g_put_together T.F_put_together.kp (b_put_together T) .nil pass0 (pa_cons (pv 2) pa_nil)) pa_nil))))
        pss_nil)
      (pss_one (ps_ret (pe_lst (pa_cons (pe_call (ok_set_title T) (hr.mono (by decide)) (by rfl) T.g_set_title T.F_set_title.kp (b_set_title T) .nil pass0 (pa_cons (pv 0) (pa_cons (pv 2) pa_nil))) pa_nil))))))))), ?_⟩
    have sF := CA0.sm
    have ne : ∀ {m : Nat}, ¬ p = m → ¬ V.int (p : Int) = V.int (m : Int) := fun h e => h (by have := V.int.inj e; omega)
    have : p = 0 ∨ p = 10 ∨ p = 11 ∨ p = 12 ∨ p = 13 ∨ p = 14 := by omega
    rcases this with rfl | rfl | rfl | rfl | rfl | rfl
    · have e1 : stepOf t rs 0 [] [l] = Cl09.step (stOf t rs) (.load l) := by
        show Cl09.step (stOf t rs) (.load (Cl09Neutral.nats (zs l))) = _
        rw [nats_zs]
      have e2 : Cl09.step (stOf t rs) (.load l) = match Cl09.read l with
        | .error e => (stOf t rs, Cl09.fault e)
        | .ok t => (t, [(t.dates.length : Int)]) := rfl
      rw [e1, e2] at G
      refine ⟨_, rfl, rfl, _, rfl, if_true_of (decide_eq_true rfl) ?_⟩
      refine ⟨_, rfl, _, rfl, c, v, y, t, rs, F, l, rfl, CA0, hv, hl, ?_⟩
      cases er : Cl09.read l with
      | error e =>
        rw [er] at G
        intro F' H' y' g CA1
        exact G.one F' H' y' t rs _ g CA1 O rfl
      | ok s =>
        rw [er] at G
        intro h F' H' y' g CA1
        exact G.one F' H' y' _ _ _ g CA1 (ok_back h) (by rw [st_back])
    · have e1 : stepOf t rs 10 [] [l] = (stOf t rs, Cl09.nums ((found l 0 (rs.map (·.1))).length :: found l 0 (rs.map (·.1)))) := by
        show Cl09.step (stOf t rs) (.find (Cl09Neutral.nats (zs l))) = _
        rw [nats_zs, sp_find]
        rfl
      rw [e1] at G
      refine ⟨_, rfl, rfl, _, rfl, if_false_of (decide_eq_false (ne (by decide))) ?_⟩
      refine ⟨_, rfl, rfl, _, rfl, if_true_of (decide_eq_true rfl) ?_⟩
      have fl := found_len l (rs.map (·.1)) 0
      have dl := O.dl
      rw [List.length_map] at fl
      refine ⟨_, rfl, _, rfl, c, v, y, t, rs, F, l, rfl, CA0, O, hv, fun H1 p1 N => ⟨p1, _, rfl, N.at_, by rw [nv_len]; omega, fun H2 p2 s2 m2 h2 => ?_⟩⟩
      exact G.stay CA0 O (N.sm.trans s2) (N.sm.free m2) (by rw [h2, cnt_nv, nv_ints])
    · have e1 : stepOf t rs 11 [] [l] = (stOf t rs, [sameI t rs l]) := by
        show Cl09.step (stOf t rs) (.same (Cl09Neutral.nats (zs l))) = _
        rw [nats_zs]
        show (stOf t rs, match Cl09.read l with
          | .error e => Cl09.fault e
          | .ok t' => [if t' = stOf t rs then 1 else 0]) = _
        unfold sameI
        cases Cl09.read l with
        | error e => rfl
        | ok s => rfl
      rw [e1] at G
      refine ⟨_, rfl, rfl, _, rfl, if_false_of (decide_eq_false (ne (by decide))) ?_⟩
      refine ⟨_, rfl, rfl, _, rfl, if_false_of (decide_eq_false (ne (by decide))) ?_⟩
      refine ⟨_, rfl, rfl, _, rfl, if_true_of (decide_eq_true rfl) ?_⟩
      exact ⟨_, rfl, _, rfl, c, v, y, t, rs, F, l, rfl, CA0, O, hv, hl, fun F' H' M => G.one F' H' y t rs _ (Grow.more M) (CA0.more M) O rfl⟩
    · have e1 : stepOf t rs 12 [] [l] = (stOf t rs, cutI l) := by
        show Cl09.step (stOf t rs) (.cut (Cl09Neutral.nats (zs l))) = _
        rw [nats_zs]
        rfl
      rw [e1] at G
      refine ⟨_, rfl, rfl, _, rfl, if_false_of (decide_eq_false (ne (by decide))) ?_⟩
      refine ⟨_, rfl, rfl, _, rfl, if_false_of (decide_eq_false (ne (by decide))) ?_⟩
      refine ⟨_, rfl, rfl, _, rfl, if_false_of (decide_eq_false (ne (by decide))) ?_⟩
      refine ⟨_, rfl, rfl, _, rfl, if_true_of (decide_eq_true rfl) ?_⟩
      exact ⟨_, rfl, v, l, rfl, sF _ _ hv, hl, fun H' p s n h => G.stay CA0 O s n h⟩
    · have e1 : stepOf t rs 13 [] [l] = (stOf t rs, Cl09.bytes (Cl09.joined l)) := by
        show Cl09.step (stOf t rs) (.join (Cl09Neutral.nats (zs l))) = _
        rw [nats_zs]
        rfl
      rw [e1] at G
      refine ⟨_, rfl, rfl, _, rfl, if_false_of (decide_eq_false (ne (by decide))) ?_⟩
      refine ⟨_, rfl, rfl, _, rfl, if_false_of (decide_eq_false (ne (by decide))) ?_⟩
      refine ⟨_, rfl, rfl, _, rfl, if_false_of (decide_eq_false (ne (by decide))) ?_⟩
      refine ⟨_, rfl, rfl, _, rfl, if_false_of (decide_eq_false (ne (by decide))) ?_⟩
      refine ⟨_, rfl, rfl, _, rfl, if_true_of (decide_eq_true rfl) ?_⟩
      have jl := joined_len _ l (Nat.le_refl _)
      refine ⟨_, rfl, v, l, rfl, sF _ _ hv, by omega, fun H1 p1 N => ⟨p1, _, rfl, N.at_, by rw [nv_len]; omega, fun H2 p2 s2 m2 h2 => ?_⟩⟩
      exact G.stay CA0 O (N.sm.trans s2) (N.sm.free m2) (by rw [h2, cnt_nv, nv_ints]; rfl)
    · have e1 : stepOf t rs 14 [] [l] = (stOf (gTitle t l).2 rs, [(gTitle t l).1]) := by
        show Cl09.step (stOf t rs) (.title (Cl09Neutral.nats (zs l))) = _
        rw [nats_zs, sp_title]
      rw [e1] at G
      refine ⟨_, rfl, rfl, _, rfl, if_false_of (decide_eq_false (ne (by decide))) ?_⟩
      refine ⟨_, rfl, rfl, _, rfl, if_false_of (decide_eq_false (ne (by decide))) ?_⟩
      refine ⟨_, rfl, rfl, _, rfl, if_false_of (decide_eq_false (ne (by decide))) ?_⟩
      refine ⟨_, rfl, rfl, _, rfl, if_false_of (decide_eq_false (ne (by decide))) ?_⟩
      refine ⟨_, rfl, rfl, _, rfl, if_false_of (decide_eq_false (ne (by decide))) ?_⟩
      exact ⟨_, rfl, _, rfl, c, v, y, t, rs, F, l, rfl, CA0, hv, hl, fun F' H' y' g CA1 => G.one F' H' y' _ _ _ g CA1 (ok_title O l) rfl⟩
def spAnswer (A : Ad) : Sp := fun vs H Q _ => ∃ (c na ra : Addr) (y : CA) (t : List Nat) (rs : List (Cl09.Date × Bool)) (F : Hp) (p : Nat) (xs : List Nat) (rps : List Addr) (rows : List (List Nat)), vs = [.ref c, .int (p : Int), .ref na, .ref ra] ∧ CalAt A.c_Calendar A.c_Date F H c y t rs ∧ CalOk t rs ∧ F na = some (.lst (nv xs)) ∧ F ra = some (.lst (rps.map V.ref)) ∧ RowsAt F rps rows ∧ Shaped p xs rows ∧ p < 15 ∧
  Goes A c y F H Q (stepOf t rs p xs rows)
theorem one_row {p : Nat} {xs : List Nat} {rows : List (List Nat)} (S : Shaped p xs rows) (h : p = 0 ∨ 10 ≤ p ∧ p ≤ 14) : ∃ b, xs = [] ∧ rows = [b] ∧ b.length ≤ 700 := by
  have : p = 0 ∨ p = 10 ∨ p = 11 ∨ p = 12 ∨ p = 13 ∨ p = 14 := by omega
  rcases this with rfl | rfl | rfl | rfl | rfl | rfl
  all_goals
    have q := shape_pair S (n := 0) (k := 1) rfl
    obtain rfl := len0 q.1
    obtain ⟨b, rfl⟩ := len1 q.2
    exact ⟨b, rfl, rfl, (bytes_of (show Cl09Neutral.bytes (zs b) = true from S.ak)).1⟩
theorem ok_answer (T : Txt K mg A) : FnOk P w K mg base CX0 11 A.f_answer A.d_answer ["calendar", "call", "numbers", "rows"] (spAnswer A) := by
  refine T.F_answer.ok sc_answer (fun vs H Q E h => ?_) (fun cdv Ar outer s H vs Q E hr h => ?_)
  · obtain ⟨c, na, ra, y, t, rs, F, p, xs, rps, rows, rfl, _⟩ := h
    rfl
  · obtain ⟨c, na, ra, y, t, rs, F, p, xs, rps, rows, rfl, CA0, O, hna, hra, hrows, S, p14, G⟩ := h
    refine ⟨_, (pss_cons (ps_if (pt_cmpR op_eq (pv 1) (pe_gi T.g_TOLD) (nomark _))
        (pss_one (ps_ret (pe_call (ok_counted T) (hr.mono (by decide)) (by rfl) T.g_counted T.F_counted.kp (b_counted T) .nil pass0 (pa_cons (pe_call (ok_tell T) (hr.mono (by decide)) (by rfl) T.g_tell T.F_tell.kp (b_tell T) .nil pass0 (pa_cons (pv 0) pa_nil)) pa_nil))))
        pss_nil)
      (pss_cons (ps_if (pt_cmpR op_eq (pv 1) (pe_gi T.g_ADD) (nomark _))
        (pss_one (ps_ret (pe_lst (pa_cons (pe_call (ok_add_date T) (hr.mono (by decide)) (by rfl) T.g_add_date T.F_add_date.kp (b_add_date T) .nil pass0 (pa_cons (pv 0) (pa_cons (pe_ix ix_list (pv 2) pe_int (fun _ _ => rfl)) (pa_cons (pe_ix ix_list (pv 2) pe_int (fun _ _ => rfl)) (pa_cons (pe_ix ix_list (pv 2) pe_int (fun _ _ => rfl)) (pa_cons (pe_ix ix_list (pv 2) pe_int (fun _ _ => rfl)) pa_nil)))))) pa_nil))))
        pss_nil)
      (pss_cons (ps_if (pt_chain op_le op_le (pe_gi T.g_NAME) (pv 1) (pe_gi T.g_DATE))
        (pss_one (ps_ret (pe_call (ok_answer_about_date T) (hr.mono (by decide)) (by rfl) T.g_answer_about_date T.F_answer_about_date.kp (b_answer_about_date T) .nil pass0 (pa_cons (pv 0) (pa_cons (pv 1) (pa_cons (pv 2) (pa_cons (pv 3) pa_nil)))))))
        pss_nil)
      (pss_one (ps_ret (pe_call (ok_answer_about_row T) (hr.mono (by decide)) (by rfl) T.g_answer_about_row T.F_answer_about_row.kp (b_answer_about_row T) .nil pass0 (pa_cons (pv 0) (pa_cons (pv 1) (pa_cons (pe_ix ix_list (pv 3) pe_int (fun _ _ => rfl)) pa_nil))))))))), ?_⟩
    have sF := CA0.sm
    refine ⟨_, rfl, rfl, _, rfl, ite2 (fun z => ?_) (fun z1 => ?_)⟩
    · have e : p = 1 := by have := V.int.inj (of_decide_eq_true z); omega
      subst e
      have q := shape_pair S (n := 0) (k := 0) rfl
      obtain rfl := len0 q.1
      obtain rfl := len0 q.2
      have tl := text_len O
      have G2 : Goes A c y F H Q (stOf t rs, Cl09.bytes (Cl09.text ⟨t, rs.map (·.1)⟩)) := G
      refine ⟨_, rfl, c, y, t, rs, F, rfl, CA0, O, fun H1 p1 N => ⟨p1, _, rfl, N.at_, by rw [nv_len]; omega, fun H2 p2 s2 m2 h2 => ?_⟩⟩
      exact G2.stay CA0 O (N.sm.trans s2) (N.sm.free m2) (by rw [h2, cnt_nv, nv_ints]; rfl)
    refine ⟨_, rfl, rfl, _, rfl, ite2 (fun z => ?_) (fun z2 => ?_)⟩
    · have e : p = 2 := by have := V.int.inj (of_decide_eq_true z); omega
      subst e
      have q := shape_pair S (n := 4) (k := 0) rfl
      obtain ⟨yy, mm, dd, mi, rfl⟩ := len4 q.1
      obtain rfl := len0 q.2
      refine ⟨_, rfl, _, rfl, na, _, 0, _, rfl, rfl, SqL.of (sF _ _ hna), atI_nat (j := 0) rfl, _, rfl, na, _, 1, _, rfl, rfl, SqL.of (sF _ _ hna), atI_nat (j := 1) rfl, _, rfl, na, _, 2, _, rfl, rfl, SqL.of (sF _ _ hna), atI_nat (j := 2) rfl, _, rfl, na, _, 3, _, rfl, rfl, SqL.of (sF _ _ hna), atI_nat (j := 3) rfl, c, y, t, rs, F, yy, mm, dd, mi, rfl, CA0, O.dl, fun F' H' y' g CA1 => ?_⟩
      exact G.one F' H' y' _ _ _ g CA1 (ok_add O yy mm dd mi) (sp_add yy mm dd mi)
    have h1 : ¬ p = 1 := fun e => z1 (decide_eq_true (by rw [e]; rfl))
    have h2 : ¬ p = 2 := fun e => z2 (decide_eq_true (by rw [e]; rfl))
    refine ⟨_, rfl, _, _, rfl, rfl, _, rfl, ite2 (fun z => ?_) (fun z => ?_)⟩
    · have z3 := of_decide_eq_true z
      refine ⟨_, _, rfl, rfl, _, rfl, ite2 (fun z => ?_) (fun z => ?_)⟩
      · have z9 := of_decide_eq_true z
        exact ⟨_, rfl, _, rfl, _, rfl, _, rfl, c, na, ra, y, t, rs, F, p, xs, rps, rows, rfl, CA0, O, hna, hra, hrows, S, by omega, by omega, G⟩
      · have z9 : ¬ (p : Int) ≤ 9 := fun q => z (decide_eq_true q)
        have hp : p = 0 ∨ 10 ≤ p ∧ p ≤ 14 := by omega
        obtain ⟨b, rfl, rfl, bl⟩ := one_row S hp
        obtain ⟨ba, rfl, hb⟩ := row1 hrows
        exact ⟨_, rfl, _, rfl, _, rfl, ra, _, 0, _, rfl, rfl, SqL.of (sF _ _ hra), atI_nat (j := 0) rfl, c, ba, y, t, rs, F, p, b, rfl, CA0, O, hb, bl, hp, G⟩
    · have z3 : ¬ (3 : Int) ≤ (p : Int) := fun q => z (decide_eq_true q)
      have hp : p = 0 ∨ 10 ≤ p ∧ p ≤ 14 := by omega
      obtain ⟨b, rfl, rfl, bl⟩ := one_row S hp
      obtain ⟨ba, rfl, hb⟩ := row1 hrows
      exact ⟨_, rfl, iteF ⟨_, rfl, _, rfl, _, rfl, ra, _, 0, _, rfl, rfl, SqL.of (sF _ _ hra), atI_nat (j := 0) rfl, c, ba, y, t, rs, F, p, b, rfl, CA0, O, hb, bl, hp, G⟩⟩
end
end Ct

set_option Elab.async false
set_option linter.all false
set_option maxRecDepth 100000
set_option maxHeartbeats 4000000
namespace Ct
open PySem PySem.Spec PyProof.Rows L2
/-! ### the list of calls -/
theorem zs_cons (n : Nat) (l : List Nat) : zs (n :: l) = (n : Int) :: zs l := rfl
theorem zs_len (l : List Nat) : (zs l).length = l.length := by simp [zs]
theorem zs_take (l : List Nat) (n : Nat) : (zs l).take n = zs (l.take n) := by simp [zs, List.map_take]
theorem zs_drop (l : List Nat) (n : Nat) : (zs l).drop n = zs (l.drop n) := by simp [zs, List.map_drop]
theorem whole_id (c : List (List Int)) : PyCl09.whole c = c := by
  unfold PyCl09.whole
  split <;> rfl
theorem drop_cons {l : List Nat} {i n : Nat} {r : List Nat} (h : l.drop i = n :: r) : l[i]? = some n ∧ l.drop (i + 1) = r ∧ i < l.length := by
  have hi : i < l.length := by
    by_cases z : i < l.length
    · exact z
    · rw [List.drop_of_length_le (by omega)] at h
      cases h
  rw [List.drop_eq_getElem_cons hi] at h
  injection h with h1 h2
  exact ⟨by rw [List.getElem?_eq_getElem hi, h1], h2, hi⟩
theorem call_inv {p : Nat} {rest : List Nat} {c : List (List Int)} {t : List Int} (h : PyFlat.call PyCl09.shape ((p : Int) :: zs rest) = some (c, t)) :
    ∃ n k xr, PyCl09.shape (p : Int) = some (n, k) ∧ n ≤ rest.length ∧ PyFlat.rows k (zs (rest.drop n)) = some (xr, t) ∧ c = ((p : Int) :: zs (rest.take n)) :: xr := by
  have e0 : PyFlat.call PyCl09.shape ((p : Int) :: zs rest) = match PyCl09.shape (p : Int) with
      | none => none
      | some (n, k) => if (zs rest).length < n then none else match PyFlat.rows k ((zs rest).drop n) with
        | none => none
        | some (xs, t) => some (((p : Int) :: (zs rest).take n) :: xs, t) := rfl
  rw [e0] at h
  cases e : PyCl09.shape (p : Int) with
  | none => rw [e] at h; cases h
  | some nk =>
    obtain ⟨n, k⟩ := nk
    rw [e] at h
    simp only [] at h
    rw [zs_len, zs_drop, zs_take] at h
    by_cases hn : rest.length < n
    · rw [if_pos hn] at h; cases h
    · rw [if_neg hn] at h
      cases er : PyFlat.rows k (zs (rest.drop n)) with
      | none => rw [er] at h; cases h
      | some q =>
        obtain ⟨xr, t'⟩ := q
        rw [er] at h
        have h' := Option.some.inj h
        injection h' with h1 h2
        subst h1 h2
        exact ⟨n, k, xr, rfl, by omega, er, rfl⟩
theorem rows_inv {m : Nat} {u : List Nat} {xr : List (List Int)} {t : List Int} (h : PyFlat.rows (m + 1) (zs u) = some (xr, t)) :
    ∃ n r xr', u = n :: r ∧ n ≤ r.length ∧ PyFlat.rows m (zs (r.drop n)) = some (xr', t) ∧ xr = zs (r.take n) :: xr' := by
  have e0 : ∀ v, PyFlat.rows (m + 1) v = match PyFlat.row v with
      | none => none
      | some (x, s) => match PyFlat.rows m s with
        | none => none
        | some (xs, t) => some (x :: xs, t) := fun _ => rfl
  rw [e0] at h
  cases u with
  | nil =>
    have : PyFlat.row (zs []) = none := rfl
    rw [this] at h
    cases h
  | cons n r =>
    have e1 : PyFlat.row (zs (n :: r)) = if 0 ≤ (n : Int) ∧ ((n : Int)).toNat ≤ (zs r).length then some ((zs r).take ((n : Int)).toNat, (zs r).drop ((n : Int)).toNat) else none := rfl
    rw [e1, show ((n : Int)).toNat = n by omega, zs_len, zs_take, zs_drop] at h
    by_cases hc : 0 ≤ (n : Int) ∧ n ≤ r.length
    · rw [if_pos hc] at h
      simp only [] at h
      cases er : PyFlat.rows m (zs (r.drop n)) with
      | none => rw [er] at h; cases h
      | some q =>
        obtain ⟨xr', t'⟩ := q
        rw [er] at h
        have h' := Option.some.inj h
        injection h' with h1 h2
        subst h1 h2
        exact ⟨n, r, xr', rfl, hc.2, er, rfl⟩
    · rw [if_neg hc] at h
      cases h
theorem calls_inv {f p : Nat} {rest : List Nat} {cs : List (List (List Int))} (h : PyFlat.calls PyCl09.shape f ((p : Int) :: zs rest) = some cs) :
    ∃ f' c t cs', PyFlat.call PyCl09.shape ((p : Int) :: zs rest) = some (c, t) ∧ PyFlat.calls PyCl09.shape f' t = some cs' ∧ cs = c :: cs' := by
  cases f with
  | zero => simp [PyFlat.calls] at h
  | succ f =>
    have e0 : PyFlat.calls PyCl09.shape (f + 1) ((p : Int) :: zs rest) = match PyFlat.call PyCl09.shape ((p : Int) :: zs rest) with
        | none => none
        | some (c, t) => match PyFlat.calls PyCl09.shape f t with
          | none => none
          | some cs => some (c :: cs) := rfl
    rw [e0] at h
    cases e : PyFlat.call PyCl09.shape ((p : Int) :: zs rest) with
    | none => rw [e] at h; cases h
    | some q =>
      obtain ⟨c, t⟩ := q
      rw [e] at h
      simp only [] at h
      cases e2 : PyFlat.calls PyCl09.shape f t with
      | none => rw [e2] at h; cases h
      | some cs' =>
        rw [e2] at h
        exact ⟨f, c, t, cs', rfl, e2, (Option.some.inj h).symm⟩
theorem More.freezeAll {F H H' : Hp} {p : Addr} {ps : List Addr} {ls : List (List Nat)} (s : Same F H) (R : NewRows H H' p ps ls) : ∃ F', More F H F' H' ∧ RowsAt F' ps ls ∧ F' p = some (.lst (ps.map V.ref)) := by
  obtain ⟨F3, M, rows, Fn⟩ := More.freezeRows s R
  have Fp : F3 p = none := by rw [Fn p R.out]; exact s.free R.nw
  refine ⟨upd F3 p (.lst (ps.map V.ref)), ⟨R.sm, M.ff.trans (same_upd Fp), fun b hb => ?_, fun b o e => ?_⟩, rows.same (same_upd Fp), upd_same⟩
  · rw [upd_ne fun y => hb (by rw [y]; exact R.nw)]
    exact M.fn b hb
  · by_cases y : b = p
    · rw [y, upd_same] at e
      rw [y, ← e]
      exact R.at_
    · rw [upd_ne y] at e
      exact M.sm _ _ e
def fromS (s : Cl09.State) (cs : List (List (List Int))) : List Int := PyFlat.told (PyFlat.played Cl09Neutral.step s cs)
theorem fromS_cons (s : Cl09.State) (c : List (List Int)) (cs : List (List (List Int))) : fromS s (c :: cs) = ((Cl09Neutral.step s c).2.length : Int) :: (Cl09Neutral.step s c).2 ++ fromS (Cl09Neutral.step s c).1 cs := by
  simp [fromS, PyFlat.told, PyFlat.played]
section
variable {P : Program} {w : World} {K : PySem.W.Frag} {mg : Str → Option Value} {base : Heap} {A : Ad}
def spAnswers (K : PySem.W.Frag) : Sp := fun vs H Q _ => ∃ (a : Addr) (l : List Nat) (cs : List (List (List Int))) (f : Nat), vs = [.ref a] ∧ SqL K H a (nv l) ∧ l.length ≤ 60000 ∧ PyFlat.calls PyCl09.shape f (zs l) = some cs ∧ cs.all Cl09Neutral.asked1 = true ∧ (fromS Cl09Neutral.start cs).length ≤ 10000000 ∧
  ∀ H' q, H' q = some (.lst ((fromS Cl09Neutral.start cs).map V.int)) → Q (.ref q) H'
theorem shape_small {p n k : Nat} (h : PyCl09.shape (p : Int) = some (n, k)) : p < 15 ∧ n ≤ 4 ∧ k ≤ 2 := by
  have hp : p < 15 := by
    by_cases z : p < 15
    · exact z
    · exfalso
      unfold PyCl09.shape at h
      iterate 15 rw [if_neg (by omega)] at h
      cases h
  have : p = 0 ∨ p = 1 ∨ p = 2 ∨ p = 3 ∨ p = 4 ∨ p = 5 ∨ p = 6 ∨ p = 7 ∨ p = 8 ∨ p = 9 ∨ p = 10 ∨ p = 11 ∨ p = 12 ∨ p = 13 ∨ p = 14 := by omega
  refine ⟨hp, ?_⟩
  rcases this with rfl | rfl | rfl | rfl | rfl | rfl | rfl | rfl | rfl | rfl | rfl | rfl | rfl | rfl | rfl <;> (cases h; decide)
theorem shapes_at {p n k : Nat} (hp : p < 15) (h : PyCl09.shape (p : Int) = some (n, k)) : (([[.int (0), .int (1)], [.int (0), .int (0)], [.int (4), .int (0)], [.int (1), .int (1)], [.int (2), .int (0)], [.int (2), .int (0)], [.int (1), .int (1)], [.int (1), .int (2)], [.int (1), .int (0)], [.int (1), .int (0)], [.int (0), .int (1)], [.int (0), .int (1)], [.int (0), .int (1)], [.int (0), .int (1)], [.int (0), .int (1)]] : List (List V)).getD p []) = [.int (n : Int), .int (k : Int)] := by
  have : p = 0 ∨ p = 1 ∨ p = 2 ∨ p = 3 ∨ p = 4 ∨ p = 5 ∨ p = 6 ∨ p = 7 ∨ p = 8 ∨ p = 9 ∨ p = 10 ∨ p = 11 ∨ p = 12 ∨ p = 13 ∨ p = 14 := by omega
  rcases this with rfl | rfl | rfl | rfl | rfl | rfl | rfl | rfl | rfl | rfl | rfl | rfl | rfl | rfl | rfl <;> (cases h; rfl)
theorem ok_answers (T : Txt K mg A) : FnOk P w K mg base CX0 12 A.f_answers A.d_answers ["calls"] (spAnswers K) := by
  refine T.F_answers.ok sc_answers (fun vs H Q E h => ?_) (fun cdv Ar outer s H vs Q E hr h => ?_)
  · obtain ⟨a, l, cs, f, rfl, _⟩ := h
    rfl
  · obtain ⟨a, l, cs, f, rfl, ha, hl, hcs, hak, htot, k⟩ := h
    refine ⟨_, (pss_cons (ps_set (i := 1) sc_answers.nd rfl (Or.inl rfl) (pe_make0 T.M_Calendar (ok_Calendar_init T) (hr.mono (by decide)) rfl T.g_Calendar (b_Calendar_init T) .nil pass0))
      (pss_cons (ps_set (i := 2) sc_answers.nd rfl (Or.inl rfl) (pe_lst pa_nil))
      (pss_cons (ps_set (i := 3) sc_answers.nd rfl (Or.inl rfl) pe_int)
      (pss_cons (ps_while PassesOwn.never (pt_cmpR op_lt (pv 3) (pe_callB call_len_seq (by rfl) T.z_len PySem.boot_len (pa_cons (pv 0) pa_nil)) (nomark _))
        (pss_cons (ps_set (i := 4) sc_answers.nd rfl (Or.inl rfl) (pe_ix ix_list (pv 0) (pv 3) (fun _ _ => rfl)))
        (pss_cons (ps_set (i := 5) sc_answers.nd rfl (Or.inl rfl) (pe_ix ix_tup (pe_gr T.g_SHAPES) (pv 4) (fun _ _ => rfl)))
        (pss_cons (ps_aug (i := 3) sc_answers.nd rfl (Or.inl rfl) pe_int ip_add)
        (pss_cons (ps_set (i := 6) sc_answers.nd rfl (Or.inl rfl) (pe_slice sl_list (pv 0) (po_some (pv 3)) (po_some (pe_op op_add (pv 3) (pe_ix ix_tup (pv 5) pe_int (fun _ _ => rfl))))))
        (pss_cons (ps_aug (i := 3) sc_answers.nd rfl (Or.inl rfl) (pe_ix ix_tup (pv 5) pe_int (fun _ _ => rfl)) ip_add)
        (pss_cons (ps_set (i := 7) sc_answers.nd rfl (Or.inl rfl) (pe_lst pa_nil))
        (pss_cons (ps_while PassesOwn.never (pt_cmpR op_lt (pe_callB call_len_seq (by rfl) T.z_len PySem.boot_len (pa_cons (pv 7) pa_nil)) (pe_ix ix_tup (pv 5) pe_int (fun _ _ => rfl)) (nomark _))
          (pss_cons (ps_set (i := 8) sc_answers.nd rfl (Or.inl rfl) (pe_ix ix_list (pv 0) (pv 3) (fun _ _ => rfl)))
          (pss_cons (ps_expr (pe_bm PySem.F.plainAttrs_list PySem.F.slot_list_append PySem.F.type_list_append mt_append (pv 7) (pa_cons (pe_slice sl_list (pv 0) (po_some (pe_op op_add (pv 3) pe_int)) (po_some (pe_op op_add (pe_op op_add (pv 3) pe_int) (pv 8)))) pa_nil)))
          (pss_one (ps_aug (i := 3) sc_answers.nd rfl (Or.inl rfl) (pe_op op_add pe_int (pv 8)) ip_add)))))
        (pss_one (ps_expr (pe_bm PySem.F.plainAttrs_list PySem.F.slot_list_extend PySem.F.type_list_extend mt_extend (pv 2) (pa_cons (pe_call (ok_counted T) (hr.mono (by decide)) (by rfl) T.g_counted T.F_counted.kp (b_counted T) .nil pass0 (pa_cons (pe_call (ok_answer T) (hr.mono (by decide)) (by rfl) T.g_answer T.F_answer.kp (b_answer T) .nil pass0 (pa_cons (pv 1) (pa_cons (pv 4) (pa_cons (pv 6) (pa_cons (pv 7) pa_nil))))) pa_nil)) pa_nil))))))))))))
      (pss_one (ps_ret (pv 2))))))), ?_⟩
    -- calendar = Calendar(); answered = []
    intro c dxc nc ndxc nec
    refine ⟨c, dxc, rfl, upd_same, fun H1 tt ds Nw => ⟨rfl, ?_⟩⟩
    obtain ⟨M1, CA1, fresh⟩ := cal_made (CD := A.c_Date) (Same.refl H) nc ndxc nec Nw
    refine ⟨Nat.zero_le _, fun o no => ?_⟩
    have o0 : H o = none := M1.hh.free no
    have M2 := M1.trans (More.same M1.sm (same_upd (o := .lst []) no))
    have CA2 := CA1.more (More.same M1.sm (same_upd (o := .lst []) no))
    obtain ⟨as, asl, hS, hSi⟩ := T.k_SHAPES
    have oc : o ∉ mutsC c ⟨dxc, tt, ds, []⟩ := fun m => CA1.trk o m no
    refine ⟨fun m σ H' => ∃ (i : Nat) (F' : Hp) (y' : CA) (t' : List Nat) (rs' : List (Cl09.Date × Bool)) (acc : List Int) (cs' : List (List (List Int))) (f' : Nat) (v4 v5 v6 v7 v8 : Option V), m = l.length - i ∧ i ≤ l.length ∧ σ = [some (.ref a), some (.ref c), some (.ref o), some (.int (i : Int)), v4, v5, v6, v7, v8] ∧ CalAt A.c_Calendar A.c_Date F' H' c y' t' rs' ∧ CalOk t' rs' ∧ Same H F' ∧ H' o = some (.lst (acc.map V.int)) ∧ o ∉ mutsC c y' ∧ F' o = none ∧
      PyFlat.calls PyCl09.shape f' (zs (l.drop i)) = some cs' ∧ cs'.all Cl09Neutral.asked1 = true ∧ acc ++ fromS (stOf t' rs') cs' = fromS Cl09Neutral.start cs,
      ⟨_, 0, _, _, [], [], [], cs, f, none, none, none, none, none, rfl, Nat.zero_le _, rfl, CA2, ⟨by decide, by decide, fun q hq => (nomatch hq), fun q hq => (nomatch hq)⟩, M2.ff, upd_same, oc, M1.sm.free no, hcs, hak, rfl⟩, ?_⟩
    rintro m σ H' ⟨i, F', y', t', rs', acc, cs', f', v4, v5, v6, v7, v8, rfl, hi, rfl, CA', O', sH, ho, oc', Fo, hcs', hak', htot'⟩
    have ha' : SqL K H' a (nv l) := (sH.trans CA'.sm).seq ha
    refine ⟨_, rfl, _, rfl, a, _, rfl, .inl ha', _, _, rfl, rfl, _, rfl, ite2 (fun z => ?_) (fun z => ?_)⟩
    · have hlt : i < l.length := by have := of_decide_eq_true z; rw [nv_len] at this; omega
      have ed : l.drop i = l[i] :: l.drop (i + 1) := List.drop_eq_getElem_cons hlt
      rw [ed, zs_cons] at hcs'
      obtain ⟨f2, c1, t1, cs2, hc1, hcs2, rfl⟩ := calls_inv hcs'
      obtain ⟨n, kk, xr, hsh, hn, hrows, rfl⟩ := call_inv hc1
      rw [List.all_cons, Bool.and_eq_true] at hak'
      have hp : l[i] < 15 := (shape_small hsh).1
      have tl : acc.length ≤ 10000000 := by
        have := congrArg List.length htot'
        rw [List.length_append] at this
        omega
      refine ⟨fun σ' H'' => ∃ (j : Nat) (F' : Hp) (y' : CA) (t' : List Nat) (rs' : List (Cl09.Date × Bool)) (acc : List Int) (f' : Nat) (v4 v5 v6 v7 v8 : Option V), i < j ∧ j ≤ l.length ∧ σ' = [some (.ref a), some (.ref c), some (.ref o), some (.int (j : Int)), v4, v5, v6, v7, v8] ∧ CalAt A.c_Calendar A.c_Date F' H'' c y' t' rs' ∧ CalOk t' rs' ∧ Same H F' ∧ H'' o = some (.lst (acc.map V.int)) ∧ o ∉ mutsC c y' ∧ F' o = none ∧
        PyFlat.calls PyCl09.shape f' (zs (l.drop j)) = some cs2 ∧ acc ++ fromS (stOf t' rs') cs2 = fromS Cl09Neutral.start cs, ?_, ?_⟩
      · rintro σ' H'' ⟨j, F', y', t', rs', acc, f', v4, v5, v6, v7, v8, h1, h2, h3, h4, h5, h6, h7, h8, h9, h10, h11⟩
        exact ⟨_, by omega, j, F', y', t', rs', acc, cs2, f', v4, v5, v6, v7, v8, rfl, h2, h3, h4, h5, h6, h7, h8, h9, h10, hak'.2, h11⟩
      -- call, shape, place, numbers
      refine ⟨_, rfl, _, rfl, a, _, _, _, rfl, rfl, ha', atI_nat (row_at hlt), ?_⟩
      obtain ⟨sa, hsa⟩ : ∃ sa, as[l[i]]? = some sa := ⟨as[l[i]]'(by omega), List.getElem?_eq_getElem (by omega)⟩
      have hT : ∀ H, SqT K H sa [.int (n : Int), .int (kk : Int)] := fun H => by rw [← shapes_at hp hsh]; exact hSi H _ _ hsa
      refine ⟨_, rfl, A.a_SHAPES, _, _, .ref sa, rfl, rfl, hS _, atI_nat (by rw [List.getElem?_map, hsa]; rfl), ?_⟩
      refine ⟨_, rfl, _, _, rfl, rfl, ?_⟩
      have a0 : atI ([.int (n : Int), .int (kk : Int)] : List V) 0 = some (.int (n : Int)) := atI_nat (j := 0) rfl
      have a1 : atI ([.int (n : Int), .int (kk : Int)] : List V) 1 = some (.int (kk : Int)) := atI_nat (j := 1) rfl
      refine ⟨_, rfl, _, rfl, _, rfl, _, rfl, _, rfl, sa, _, 0, _, rfl, rfl, hT _, a0, _, _, rfl, rfl, _, rfl, a, _, rfl, ha', fun na nna => ?_⟩
      have ena : cutV (nv l) (some ((i : Int) + 1)) (some ((i : Int) + 1 + (n : Int))) = nv ((l.drop (i + 1)).take n) := by
        have := cut_mid (nv l) (i + 1) (i + 1 + n)
        rw [nv_drop, nv_take, show i + 1 + n - (i + 1) = n by omega] at this
        exact this
      have M3 := More.freeze CA'.sm (same_upd nna) nna (upd_same (H := H') (a := na) (o := .lst (cutV (nv l) (some ((i : Int) + 1)) (some ((i : Int) + 1 + (n : Int))))))
      have CA3 := CA'.more M3
      refine ⟨_, rfl, _, rfl, sa, _, 0, _, rfl, rfl, hT _, a0, _, _, rfl, rfl, ?_⟩
      -- rows = []
      refine ⟨Nat.zero_le _, fun ra nra => ?_⟩
      have dd : l.drop (i + 1 + n) = (l.drop (i + 1)).drop n := by rw [List.drop_drop]
      have R0 : NewRows (upd H' na (.lst (cutV (nv l) (some ((i : Int) + 1)) (some ((i : Int) + 1 + (n : Int)))))) _ ra [] [] := ⟨same_upd nra, nra, upd_same, by simp, by simp, trivial⟩
      generalize hH3 : upd H' na (.lst (cutV (nv l) (some ((i : Int) + 1)) (some ((i : Int) + 1 + (n : Int))))) = H3 at *
      have hnl : n ≤ l.length - (i + 1) := by rw [List.length_drop] at hn; exact hn
      have ha3 : SqL K H3 a (nv l) := M3.hh |> fun q => Same.seq q ha'
      refine ⟨fun m σ H'' => ∃ (R : List (List Nat)) (rps : List Addr) (j : Nat) (xr2 : List (List Int)) (v : Option V), m = kk - R.length ∧ R.length ≤ kk ∧ i < j ∧ j ≤ l.length ∧ σ = [some (.ref a), some (.ref c), some (.ref o), some (.int (j : Int)), some (.int (l[i] : Nat)), some (.ref sa), some (.ref na), some (.ref ra), v] ∧ NewRows H3 H'' ra rps R ∧
        PyFlat.rows (kk - R.length) (zs (l.drop j)) = some (xr2, t1) ∧ xr = R.map zs ++ xr2,
        ⟨_, [], [], i + 1 + n, xr, v8, rfl, Nat.zero_le _, by omega, by omega, rfl, R0, by rw [dd]; exact hrows, rfl⟩, ?_⟩
      rintro m σ H4 ⟨R, rps, j, xr2, v, rfl, hR, hij, hj, rfl, R4, hrows4, exr⟩
      have rl := R4.rows.len
      have ha4 : SqL K H4 a (nv l) := R4.sm.seq ha3
      refine ⟨_, rfl, ra, _, rfl, .inl (SqL.of R4.at_), _, rfl, sa, _, 1, _, rfl, rfl, hT _, a1, _, _, rfl, rfl, _, rfl, ite2 (fun y => ?_) (fun y => ?_)⟩
      · have y1 := of_decide_eq_true y
        rw [List.length_map, rl] at y1
        obtain ⟨mm, em⟩ : ∃ mm, kk - R.length = mm + 1 := ⟨kk - R.length - 1, by omega⟩
        rw [em] at hrows4
        obtain ⟨n2, r2, xr3, e2, hn2, hrows5, rfl⟩ := rows_inv hrows4
        obtain ⟨hj1, hj2, hj3⟩ := drop_cons e2
        have r2l : r2.length = l.length - (j + 1) := by rw [← hj2, List.length_drop]
        refine ⟨fun σ' H'' => ∃ (q : Addr) (v : Option V), σ' = [some (.ref a), some (.ref c), some (.ref o), some (.int ((j + 1 + n2 : Nat) : Int)), some (.int (l[i] : Nat)), some (.ref sa), some (.ref na), some (.ref ra), v] ∧ NewRows H3 H'' ra (rps ++ [q]) (R ++ [r2.take n2]), ?_, ?_⟩
        · rintro σ' H'' ⟨q, v, h1, h2⟩
          refine ⟨_, ?_, R ++ [r2.take n2], rps ++ [q], j + 1 + n2, xr3, v, rfl, ?_, by omega, by omega, h1, h2, ?_, ?_⟩
          · rw [List.length_append, List.length_singleton]
            omega
          · rw [List.length_append, List.length_singleton]
            omega
          · rw [List.length_append, List.length_singleton, show kk - (R.length + 1) = mm by omega, ← List.drop_drop, hj2]
            exact hrows5
          · rw [exr, List.map_append, List.append_assoc]
            rfl
        · have gj : atI (nv l) (j : Int) = some (.int (n2 : Int)) := atI_nat (by rw [nv, List.getElem?_map, hj1]; rfl)
          refine ⟨_, rfl, _, rfl, a, _, _, _, rfl, rfl, ha4, gj, ?_⟩
          refine ⟨_, rfl, .inl ⟨rfl, _, SqL.of R4.at_⟩, _, rfl, _, rfl, _, _, rfl, rfl, _, rfl, _, rfl, _, _, rfl, rfl, _, rfl, _, _, rfl, rfl, _, rfl, a, _, rfl, ha4, fun q nq => ?_⟩
          have eq : cutV (nv l) (some ((j : Int) + 1)) (some ((j : Int) + 1 + (n2 : Int))) = nv (r2.take n2) := by
            have := cut_mid (nv l) (j + 1) (j + 1 + n2)
            rw [nv_drop, nv_take, show j + 1 + n2 - (j + 1) = n2 by omega, hj2] at this
            exact this
          have N : NewRow H4 (upd H4 q (.lst (cutV (nv l) (some ((j : Int) + 1)) (some ((j : Int) + 1 + (n2 : Int)))))) q (r2.take n2) := ⟨same_upd nq, nq, by rw [upd_same, eq]⟩
          have sk : kk ≤ 2 := (shape_small hsh).2.2
          refine ⟨ra, _, _, rfl, rfl, N.sm _ _ R4.at_, by rw [List.length_map, rl]; exact sz (by omega), ?_⟩
          refine ⟨_, rfl, _, rfl, _, _, rfl, rfl, _, _, rfl, rfl, q, some (.int (n2 : Int)), ?_, R4.push N⟩
          show [some (V.ref a), some (V.ref c), some (V.ref o), some (V.int ((j : Int) + (1 + (n2 : Int)))), some (.int (l[i] : Nat)), some (.ref sa), some (.ref na), some (.ref ra), some (.int (n2 : Int))] = _
          rw [show (j : Int) + (1 + (n2 : Int)) = ((j + 1 + n2 : Nat) : Int) by omega]
      · have y1 : ¬ ((rps.map V.ref).length : Int) < (kk : Int) := fun q => y (decide_eq_true q)
        rw [List.length_map, rl] at y1
        have eR : R.length = kk := by omega
        rw [show kk - R.length = 0 by omega] at hrows4
        have e3 : xr2 = [] ∧ zs (l.drop j) = t1 := by
          have := Option.some.inj hrows4
          injection this with h1 h2
          exact ⟨h1.symm, h2⟩
        obtain ⟨rfl, rfl⟩ := e3
        rw [List.append_nil] at exr
        subst exr
        -- the call's answer
        obtain ⟨F5, M5, rows5, hra5⟩ := More.freezeAll M3.sm R4
        have CA5 := CA3.more M5
        have M35 := M3.trans M5
        have S : Shaped l[i] ((l.drop (i + 1)).take n) R := by
          refine ⟨?_, hak'.1⟩
          rw [List.length_take, List.length_drop, Nat.min_eq_left hnl, eR]
          exact hsh
        have hna5 : F5 na = some (.lst (nv ((l.drop (i + 1)).take n))) := by
          refine M5.ff _ _ ?_
          rw [upd_same, ena]
        have oH : H' o ≠ none := by rw [ho]; simp
        have o5 : H4 o = some (.lst (acc.map V.int)) := M35.hh _ _ ho
        refine ⟨_, rfl, .inl ⟨rfl, _, SqL.of o5⟩, _, rfl, _, rfl, _, rfl, _, rfl, c, na, ra, y', t', rs', F5, l[i], _, rps, R, rfl, CA5, O', hna5, hra5, rows5, S, hp, fun F6 H6 y6 t6 rs6 q ans g6 CA6 O6 qn hq st => ?_⟩
        have o6 : H6 o = some (.lst (acc.map V.int)) := g6.hh _ _ o5 oc'
        have oc6 : o ∉ mutsC c y6 := fun mm => by
          rcases g6.mm o mm with h | h
          · exact oc' h
          · rw [o5] at h
            cases h
        have Fo6 : F6 o = none := by rw [g6.fn o (by rw [o5]; simp), M35.fn o oH]; exact Fo
        have tot := htot'
        have st' : Cl09Neutral.step (stOf t' rs') ((((l[i] : Nat) : Int) :: zs ((l.drop (i + 1)).take n)) :: R.map zs) = (stOf t6 rs6, ans) := st
        rw [fromS_cons, st'] at tot
        simp only [] at tot
        have tl2 := congrArg List.length tot
        rw [List.length_append, List.length_append, List.length_cons] at tl2
        refine ⟨q, _, rfl, hq, by rw [List.length_map]; omega, fun H7 p7 s7 m7 h7 => ?_⟩
        have CA7 := CA6.more (More.same CA6.sm s7)
        refine ⟨o, p7, _, _, rfl, rfl, s7 _ _ o6, h7, ?_, ?_⟩
        · rw [List.length_cons, List.length_map, List.length_map]
          have := sz (n := acc.length + (ans.length + 1)) (by omega)
          omega
        · have gO : Grow [o] [o] F6 H7 F6 (upd H7 o (.lst (acc.map V.int ++ (.int ((ans.map V.int).length : Nat) :: ans.map V.int)))) := Grow.put CA7.sm (by simp) Fo6
          refine ⟨j, F6, y6, t6, rs6, acc ++ ((ans.length : Int) :: ans), f2, _, _, _, _, _, hij, hj, rfl, CA7.keep gO (fun mm hm e => oc6 (mem_one e ▸ hm)), O6, (sH.trans M35.ff).trans g6.ff, ?_, oc6, Fo6, hcs2, ?_⟩
          · rw [upd_same, List.length_map]
            simp
          · rw [← tot]
            simp
    · have hge : i = l.length := by
        have : ¬ i < l.length := fun q => z (decide_eq_true (by rw [nv_len]; omega))
        omega
      rw [hge, List.drop_length] at hcs'
      have e : cs' = [] := by
        cases f' with
        | zero => exact (Option.some.inj hcs').symm
        | succ f' => exact (Option.some.inj hcs').symm
      subst e
      refine ⟨_, rfl, k _ o ?_⟩
      have e2 : acc = fromS Cl09Neutral.start cs := by rw [← htot']; simp [fromS, PyFlat.told, PyFlat.played]
      rw [← e2]
      exact ho
end
end Ct

set_option Elab.async false
set_option linter.all false
set_option maxRecDepth 100000
set_option maxHeartbeats 4000000
namespace Ct
open PySem PySem.Spec PyProof.Rows L2
open PySem.W (Codec)
/-! ### the request -/
theorem ints_are : ∀ ns : List Int, ns.all (Codec.inInt 0 20000) = true → ∃ l : List Nat, ns = zs l
  | [], _ => ⟨[], rfl⟩
  | z :: r, h => by
    rw [List.all_cons, Bool.and_eq_true] at h
    obtain ⟨l, e⟩ := ints_are r h.2
    have h0 : (decide (0 ≤ z) && decide (z ≤ 20000)) = true := h.1
    rw [Bool.and_eq_true] at h0
    have h1 := of_decide_eq_true h0.1
    exact ⟨z.toNat :: l, by rw [zs_cons, ← e, show (z.toNat : Int) = z by omega]⟩
theorem map_whole (cs : List (List (List Int))) : cs.map PyCl09.whole = cs := by
  rw [show PyCl09.whole = id from funext whole_id, List.map_id]
theorem asked_gives {ns : List Int} (h : PyCl09.answers_asked ns = true) : ∃ cs, PyFlat.calls PyCl09.shape ns.length ns = some cs ∧ cs.all Cl09Neutral.asked1 = true ∧ fromS Cl09Neutral.start cs = PyCl09.answers ns ∧ (fromS Cl09Neutral.start cs).length ≤ 10000000 := by
  unfold PyCl09.answers_asked at h
  cases e : PyFlat.calls PyCl09.shape ns.length ns with
  | none => rw [e] at h; cases h
  | some raw =>
    rw [e] at h
    simp only [Bool.and_eq_true, map_whole] at h
    obtain ⟨⟨⟨_, _⟩, h1⟩, h2⟩ := h
    have ea : PyCl09.answers ns = fromS Cl09Neutral.start raw := by
      unfold PyCl09.answers PyCl09.calls
      rw [e]
      simp only [map_whole]
      rfl
    rw [ea] at h2
    unfold Cl09Neutral.asked at h1
    simp only [Bool.and_eq_true] at h1
    exact ⟨raw, rfl, h1.2.2, ea.symm, of_decide_eq_true h2⟩
theorem zs_nv (l : List Nat) : (zs l).map V.int = nv l := by
  simp [zs, nv]
theorem request {K : PySem.W.Frag} {H : Hp} {Q : VK} {E : XK} {a : Addr} {ns : List Int} (ha : SqL K H a (ns.map V.int)) (hn : ns.all (Codec.inInt 0 20000) = true) (hl : ns.length ≤ 60000) (hask : PyCl09.answers_asked ns = true)
    (k : ∀ H' q, H' q = some (.lst ((PyCl09.answers ns).map V.int)) → Q (.ref q) H') : spAnswers K [.ref a] H Q E := by
  obtain ⟨cs, h1, h2, h3, h4⟩ := asked_gives hask
  obtain ⟨l, rfl⟩ := ints_are ns hn
  rw [zs_nv] at ha
  rw [zs_len] at hl
  exact ⟨a, l, cs, _, rfl, ha, hl, h1, h2, h4, fun H' q hq => k H' q (by rw [← h3]; exact hq)⟩
end Ct

set_option Elab.async false
set_option linter.all false
set_option maxRecDepth 100000
set_option maxHeartbeats 0
namespace Ct
open PySem PySem.Spec PyProof.Rows L2
theorem all_mk {P : Program} {w : World} {K : PySem.W.Frag} {h : Heap} {mg : Str → Option Value} {fa : Addr} (X : K.In h) (G : h.Ns mainGlobals mg) (hfa : mg "answers" = some (.ref fa))
    {c_Calendar c_Date c_Reading f_row_of f_counted f_split_row f_is_small_letter f_is_digit f_number_of f_put_together f_is_ended f_lines_of f_cut_line f_may_stand_in_line_name f_name_size f_is_other_name f_Date_init f_Calendar_init f_days_of_year f_days_of_month f_is_day f_is_minute f_day_number f_day_parts f_two_digits f_tell_time f_has_time_form f_read_time f_may_stand_in_name f_is_name f_tell_name f_read_name f_read_number f_is_tag f_read_tags f_Reading_init f_told_fault f_read_title f_read_begin f_read_end f_read_date_name f_read_at f_read_long f_read_ring f_has_one_twice f_read_tag f_read_other f_read_outside f_read_within f_read_line f_read_lines f_read f_date_numbers f_dates_with_tag f_has_the_same f_compare f_cut_given f_load f_add_date f_drop_date f_set_title f_set_name f_set_length f_switch_ring f_switch_tag f_add_other f_line_of f_tell_tags f_date_lines f_calendar_lines f_tell f_answer_about_date f_answer_about_row f_answer f_answers a_MONTH_DAYS a_OTHERWISE a_MEANT a_SHAPES a_SHAPES_0 a_SHAPES_1 a_SHAPES_2 a_SHAPES_3 a_SHAPES_4 a_SHAPES_5 a_SHAPES_6 a_SHAPES_7 a_SHAPES_8 a_SHAPES_9 a_SHAPES_10 a_SHAPES_11 a_SHAPES_12 a_SHAPES_13 a_SHAPES_14 : Addr} {od_row_of an_row_of od_counted an_counted od_split_row an_split_row od_is_small_letter an_is_small_letter od_is_digit an_is_digit od_number_of an_number_of od_put_together an_put_together od_is_ended an_is_ended od_lines_of an_lines_of od_cut_line an_cut_line od_may_stand_in_line_name an_may_stand_in_line_name od_name_size an_name_size od_is_other_name an_is_other_name od_Date_init an_Date_init od_Calendar_init an_Calendar_init od_days_of_year an_days_of_year od_days_of_month an_days_of_month od_is_day an_is_day od_is_minute an_is_minute od_day_number an_day_number od_day_parts an_day_parts od_two_digits an_two_digits od_tell_time an_tell_time od_has_time_form an_has_time_form od_read_time an_read_time od_may_stand_in_name an_may_stand_in_name od_is_name an_is_name od_tell_name an_tell_name od_read_name an_read_name od_read_number an_read_number od_is_tag an_is_tag od_read_tags an_read_tags od_Reading_init an_Reading_init od_told_fault an_told_fault od_read_title an_read_title od_read_begin an_read_begin od_read_end an_read_end od_read_date_name an_read_date_name od_read_at an_read_at od_read_long an_read_long od_read_ring an_read_ring od_has_one_twice an_has_one_twice od_read_tag an_read_tag od_read_other an_read_other od_read_outside an_read_outside od_read_within an_read_within od_read_line an_read_line od_read_lines an_read_lines od_read an_read od_date_numbers an_date_numbers od_dates_with_tag an_dates_with_tag od_has_the_same an_has_the_same od_compare an_compare od_cut_given an_cut_given od_load an_load od_add_date an_add_date od_drop_date an_drop_date od_set_title an_set_title od_set_name an_set_name od_set_length an_set_length od_switch_ring an_switch_ring od_switch_tag an_switch_tag od_add_other an_add_other od_line_of an_line_of od_tell_tags an_tell_tags od_date_lines an_date_lines od_calendar_lines an_calendar_lines od_tell an_tell od_answer_about_date an_answer_about_date od_answer_about_row an_answer_about_row od_answer an_answer od_answers an_answers od_MONTH_DAYS od_SHAPES od_SHAPES_0 od_SHAPES_1 od_SHAPES_2 od_SHAPES_3 od_SHAPES_4 od_SHAPES_5 od_SHAPES_6 od_SHAPES_7 od_SHAPES_8 od_SHAPES_9 od_SHAPES_10 od_SHAPES_11 od_SHAPES_12 od_SHAPES_13 od_SHAPES_14 : Option Addr} {sl_row_of sl_counted sl_split_row sl_is_small_letter sl_is_digit sl_number_of sl_put_together sl_is_ended sl_lines_of sl_cut_line sl_may_stand_in_line_name sl_name_size sl_is_other_name sl_Date_init sl_Calendar_init sl_days_of_year sl_days_of_month sl_is_day sl_is_minute sl_day_number sl_day_parts sl_two_digits sl_tell_time sl_has_time_form sl_read_time sl_may_stand_in_name sl_is_name sl_tell_name sl_read_name sl_read_number sl_is_tag sl_read_tags sl_Reading_init sl_told_fault sl_read_title sl_read_begin sl_read_end sl_read_date_name sl_read_at sl_read_long sl_read_ring sl_has_one_twice sl_read_tag sl_read_other sl_read_outside sl_read_within sl_read_line sl_read_lines sl_read sl_date_numbers sl_dates_with_tag sl_has_the_same sl_compare sl_cut_given sl_load sl_add_date sl_drop_date sl_set_title sl_set_name sl_set_length sl_switch_ring sl_switch_tag sl_add_other sl_line_of sl_tell_tags sl_date_lines sl_calendar_lines sl_tell sl_answer_about_date sl_answer_about_row sl_answer sl_answers sl_MONTH_DAYS sl_SHAPES sl_SHAPES_0 sl_SHAPES_1 sl_SHAPES_2 sl_SHAPES_3 sl_SHAPES_4 sl_SHAPES_5 sl_SHAPES_6 sl_SHAPES_7 sl_SHAPES_8 sl_SHAPES_9 sl_SHAPES_10 sl_SHAPES_11 sl_SHAPES_12 sl_SHAPES_13 sl_SHAPES_14 : Array (Option Value)} {oc_row_of kV_row_of dc_row_of pm_row_of cd_row_of ct_row_of oc_counted kV_counted dc_counted pm_counted cd_counted ct_counted oc_split_row kV_split_row dc_split_row pm_split_row cd_split_row ct_split_row oc_is_small_letter kV_is_small_letter dc_is_small_letter pm_is_small_letter cd_is_small_letter ct_is_small_letter oc_is_digit kV_is_digit dc_is_digit pm_is_digit cd_is_digit ct_is_digit oc_number_of kV_number_of dc_number_of pm_number_of cd_number_of ct_number_of oc_put_together kV_put_together dc_put_together pm_put_together cd_put_together ct_put_together oc_is_ended kV_is_ended dc_is_ended pm_is_ended cd_is_ended ct_is_ended oc_lines_of kV_lines_of dc_lines_of pm_lines_of cd_lines_of ct_lines_of oc_cut_line kV_cut_line dc_cut_line pm_cut_line cd_cut_line ct_cut_line oc_may_stand_in_line_name kV_may_stand_in_line_name dc_may_stand_in_line_name pm_may_stand_in_line_name cd_may_stand_in_line_name ct_may_stand_in_line_name oc_name_size kV_name_size dc_name_size pm_name_size cd_name_size ct_name_size oc_is_other_name kV_is_other_name dc_is_other_name pm_is_other_name cd_is_other_name ct_is_other_name oc_Date_init kV_Date_init dc_Date_init pm_Date_init cd_Date_init ct_Date_init oc_Calendar_init kV_Calendar_init dc_Calendar_init pm_Calendar_init cd_Calendar_init ct_Calendar_init oc_days_of_year kV_days_of_year dc_days_of_year pm_days_of_year cd_days_of_year ct_days_of_year oc_days_of_month kV_days_of_month dc_days_of_month pm_days_of_month cd_days_of_month ct_days_of_month oc_is_day kV_is_day dc_is_day pm_is_day cd_is_day ct_is_day oc_is_minute kV_is_minute dc_is_minute pm_is_minute cd_is_minute ct_is_minute oc_day_number kV_day_number dc_day_number pm_day_number cd_day_number ct_day_number oc_day_parts kV_day_parts dc_day_parts pm_day_parts cd_day_parts ct_day_parts oc_two_digits kV_two_digits dc_two_digits pm_two_digits cd_two_digits ct_two_digits oc_tell_time kV_tell_time dc_tell_time pm_tell_time cd_tell_time ct_tell_time oc_has_time_form kV_has_time_form dc_has_time_form pm_has_time_form cd_has_time_form ct_has_time_form oc_read_time kV_read_time dc_read_time pm_read_time cd_read_time ct_read_time oc_may_stand_in_name kV_may_stand_in_name dc_may_stand_in_name pm_may_stand_in_name cd_may_stand_in_name ct_may_stand_in_name oc_is_name kV_is_name dc_is_name pm_is_name cd_is_name ct_is_name oc_tell_name kV_tell_name dc_tell_name pm_tell_name cd_tell_name ct_tell_name oc_read_name kV_read_name dc_read_name pm_read_name cd_read_name ct_read_name oc_read_number kV_read_number dc_read_number pm_read_number cd_read_number ct_read_number oc_is_tag kV_is_tag dc_is_tag pm_is_tag cd_is_tag ct_is_tag oc_read_tags kV_read_tags dc_read_tags pm_read_tags cd_read_tags ct_read_tags oc_Reading_init kV_Reading_init dc_Reading_init pm_Reading_init cd_Reading_init ct_Reading_init oc_told_fault kV_told_fault dc_told_fault pm_told_fault cd_told_fault ct_told_fault oc_read_title kV_read_title dc_read_title pm_read_title cd_read_title ct_read_title oc_read_begin kV_read_begin dc_read_begin pm_read_begin cd_read_begin ct_read_begin oc_read_end kV_read_end dc_read_end pm_read_end cd_read_end ct_read_end oc_read_date_name kV_read_date_name dc_read_date_name pm_read_date_name cd_read_date_name ct_read_date_name oc_read_at kV_read_at dc_read_at pm_read_at cd_read_at ct_read_at oc_read_long kV_read_long dc_read_long pm_read_long cd_read_long ct_read_long oc_read_ring kV_read_ring dc_read_ring pm_read_ring cd_read_ring ct_read_ring oc_has_one_twice kV_has_one_twice dc_has_one_twice pm_has_one_twice cd_has_one_twice ct_has_one_twice oc_read_tag kV_read_tag dc_read_tag pm_read_tag cd_read_tag ct_read_tag oc_read_other kV_read_other dc_read_other pm_read_other cd_read_other ct_read_other oc_read_outside kV_read_outside dc_read_outside pm_read_outside cd_read_outside ct_read_outside oc_read_within kV_read_within dc_read_within pm_read_within cd_read_within ct_read_within oc_read_line kV_read_line dc_read_line pm_read_line cd_read_line ct_read_line oc_read_lines kV_read_lines dc_read_lines pm_read_lines cd_read_lines ct_read_lines oc_read kV_read dc_read pm_read cd_read ct_read oc_date_numbers kV_date_numbers dc_date_numbers pm_date_numbers cd_date_numbers ct_date_numbers oc_dates_with_tag kV_dates_with_tag dc_dates_with_tag pm_dates_with_tag cd_dates_with_tag ct_dates_with_tag oc_has_the_same kV_has_the_same dc_has_the_same pm_has_the_same cd_has_the_same ct_has_the_same oc_compare kV_compare dc_compare pm_compare cd_compare ct_compare oc_cut_given kV_cut_given dc_cut_given pm_cut_given cd_cut_given ct_cut_given oc_load kV_load dc_load pm_load cd_load ct_load oc_add_date kV_add_date dc_add_date pm_add_date cd_add_date ct_add_date oc_drop_date kV_drop_date dc_drop_date pm_drop_date cd_drop_date ct_drop_date oc_set_title kV_set_title dc_set_title pm_set_title cd_set_title ct_set_title oc_set_name kV_set_name dc_set_name pm_set_name cd_set_name ct_set_name oc_set_length kV_set_length dc_set_length pm_set_length cd_set_length ct_set_length oc_switch_ring kV_switch_ring dc_switch_ring pm_switch_ring cd_switch_ring ct_switch_ring oc_switch_tag kV_switch_tag dc_switch_tag pm_switch_tag cd_switch_tag ct_switch_tag oc_add_other kV_add_other dc_add_other pm_add_other cd_add_other ct_add_other oc_line_of kV_line_of dc_line_of pm_line_of cd_line_of ct_line_of oc_tell_tags kV_tell_tags dc_tell_tags pm_tell_tags cd_tell_tags ct_tell_tags oc_date_lines kV_date_lines dc_date_lines pm_date_lines cd_date_lines ct_date_lines oc_calendar_lines kV_calendar_lines dc_calendar_lines pm_calendar_lines cd_calendar_lines ct_calendar_lines oc_tell kV_tell dc_tell pm_tell cd_tell ct_tell oc_answer_about_date kV_answer_about_date dc_answer_about_date pm_answer_about_date cd_answer_about_date ct_answer_about_date oc_answer_about_row kV_answer_about_row dc_answer_about_row pm_answer_about_row cd_answer_about_row ct_answer_about_row oc_answer kV_answer dc_answer pm_answer cd_answer ct_answer oc_answers kV_answers dc_answers pm_answers cd_answers ct_answers : Value} {t_NEWLINE t_BLANK t_COMMA t_HYPHEN t_ZERO t_COLON t_BACKSLASH t_FIRST_PIECE t_NEXT_PIECE t_MOST_NAME t_LEAST_OTHER_NAME t_MOST_DATES t_MOST_RINGS t_MOST_TAGS t_MOST_OTHERS t_MOST_NUMBER t_FIRST_YEAR t_LAST_YEAR t_MONTH_DAYS_0 t_MONTH_DAYS_1 t_MONTH_DAYS_2 t_MONTH_DAYS_3 t_MONTH_DAYS_4 t_MONTH_DAYS_5 t_MONTH_DAYS_6 t_MONTH_DAYS_7 t_MONTH_DAYS_8 t_MONTH_DAYS_9 t_MONTH_DAYS_10 t_MONTH_DAYS_11 t_DAY_MINUTES t_TIME_FORM t_MOST_NAME_BYTES t_MOST_DIGITS t_MOST_TAG_LETTERS t_OTHERWISE_0 u_OTHERWISE_0 t_OTHERWISE_1 u_OTHERWISE_1 t_OTHERWISE_2 u_OTHERWISE_2 t_OTHERWISE_3 u_OTHERWISE_3 t_MEANT_0 u_MEANT_0 t_MEANT_1 u_MEANT_1 t_MEANT_2 u_MEANT_2 t_MEANT_3 u_MEANT_3 t_RIGHT t_NO_LINE t_MISPLACED t_WRONG_VALUE t_TOO_MANY t_UNFINISHED t_UNKNOWN t_WRONG t_NO_DATE t_FULL t_MOST_VALUE_BYTES t_LOAD t_TOLD t_ADD t_NAME t_LONG t_RING t_TAG t_OTHER t_DROP t_DATE t_FIND t_SAME t_CUT t_JOIN t_SHAPES_0_0 t_SHAPES_0_1 t_SHAPES_1_0 t_SHAPES_1_1 t_SHAPES_2_0 t_SHAPES_2_1 t_SHAPES_3_0 t_SHAPES_3_1 t_SHAPES_4_0 t_SHAPES_4_1 t_SHAPES_5_0 t_SHAPES_5_1 t_SHAPES_6_0 t_SHAPES_6_1 t_SHAPES_7_0 t_SHAPES_7_1 t_SHAPES_8_0 t_SHAPES_8_1 t_SHAPES_9_0 t_SHAPES_9_1 t_SHAPES_10_0 t_SHAPES_10_1 t_SHAPES_11_0 t_SHAPES_11_1 t_SHAPES_12_0 t_SHAPES_12_1 t_SHAPES_13_0 t_SHAPES_13_1 t_SHAPES_14_0 t_SHAPES_14_1 : Tok} {n_MONTH_DAYS n_OTHERWISE n_MEANT n_SHAPES n_SHAPES_0 n_SHAPES_1 n_SHAPES_2 n_SHAPES_3 n_SHAPES_4 n_SHAPES_5 n_SHAPES_6 n_SHAPES_7 n_SHAPES_8 n_SHAPES_9 n_SHAPES_10 n_SHAPES_11 n_SHAPES_12 n_SHAPES_13 n_SHAPES_14 : Nat}
    (aC_Calendar : PySem.W.nsIn K mainGlobals "Calendar" = some (some (.ref c_Calendar)))
    (pg_Calendar : PySem.W.plainGet K c_Calendar Str.empty = true)
    (hd_Calendar : PySem.W.hasDictIn K c_Calendar = true)
    (po_Calendar : PySem.W.plainOver K c_Calendar = true)
    (sa_Calendar : PySem.W.findIn K (.ref c_Calendar) "__setattr__" = some (some (.builtin "object.__setattr__")))
    (mk_Calendar : PySem.W.makesIn K c_Calendar = true)
    (kc_Calendar : PySem.W.keepIn K (.ref c_Calendar) = true)
    (n_Calendar_title : PySem.W.findIn K (.ref c_Calendar) "title" = some none)
    (n_Calendar_dates : PySem.W.findIn K (.ref c_Calendar) "dates" = some none)
    (aC_Date : PySem.W.nsIn K mainGlobals "Date" = some (some (.ref c_Date)))
    (pg_Date : PySem.W.plainGet K c_Date Str.empty = true)
    (hd_Date : PySem.W.hasDictIn K c_Date = true)
    (po_Date : PySem.W.plainOver K c_Date = true)
    (sa_Date : PySem.W.findIn K (.ref c_Date) "__setattr__" = some (some (.builtin "object.__setattr__")))
    (mk_Date : PySem.W.makesIn K c_Date = true)
    (kc_Date : PySem.W.keepIn K (.ref c_Date) = true)
    (n_Date_day : PySem.W.findIn K (.ref c_Date) "day" = some none)
    (n_Date_minute : PySem.W.findIn K (.ref c_Date) "minute" = some none)
    (n_Date_length : PySem.W.findIn K (.ref c_Date) "length" = some none)
    (n_Date_name : PySem.W.findIn K (.ref c_Date) "name" = some none)
    (n_Date_rings : PySem.W.findIn K (.ref c_Date) "rings" = some none)
    (n_Date_tags : PySem.W.findIn K (.ref c_Date) "tags" = some none)
    (n_Date_others : PySem.W.findIn K (.ref c_Date) "others" = some none)
    (aC_Reading : PySem.W.nsIn K mainGlobals "Reading" = some (some (.ref c_Reading)))
    (pg_Reading : PySem.W.plainGet K c_Reading Str.empty = true)
    (hd_Reading : PySem.W.hasDictIn K c_Reading = true)
    (po_Reading : PySem.W.plainOver K c_Reading = true)
    (sa_Reading : PySem.W.findIn K (.ref c_Reading) "__setattr__" = some (some (.builtin "object.__setattr__")))
    (mk_Reading : PySem.W.makesIn K c_Reading = true)
    (kc_Reading : PySem.W.keepIn K (.ref c_Reading) = true)
    (n_Reading_calendar : PySem.W.findIn K (.ref c_Reading) "calendar" = some none)
    (n_Reading_within_date : PySem.W.findIn K (.ref c_Reading) "within_date" = some none)
    (n_Reading_fault : PySem.W.findIn K (.ref c_Reading) "fault" = some none)
    (a_row_of : PySem.W.nsIn K mainGlobals "row_of" = some (some (.ref f_row_of)))
    (l_row_of : K.lookup f_row_of = some ⟨oc_row_of, od_row_of, .func (PySem.W.fnOf "row_of" "row_of" (defArgs s_row_of) (defBody s_row_of) (defScope s_row_of) .none kV_row_of dc_row_of pm_row_of an_row_of cd_row_of ct_row_of), sl_row_of⟩)
    (c_row_of_ : PySem.W.codeIn K cd_row_of "row_of" = true)
    (k_row_of : PySem.W.keepIn K (.ref f_row_of) = true)
    (a_counted : PySem.W.nsIn K mainGlobals "counted" = some (some (.ref f_counted)))
    (l_counted : K.lookup f_counted = some ⟨oc_counted, od_counted, .func (PySem.W.fnOf "counted" "counted" (defArgs s_counted) (defBody s_counted) (defScope s_counted) .none kV_counted dc_counted pm_counted an_counted cd_counted ct_counted), sl_counted⟩)
    (c_counted_ : PySem.W.codeIn K cd_counted "counted" = true)
    (k_counted : PySem.W.keepIn K (.ref f_counted) = true)
    (a_split_row : PySem.W.nsIn K mainGlobals "split_row" = some (some (.ref f_split_row)))
    (l_split_row : K.lookup f_split_row = some ⟨oc_split_row, od_split_row, .func (PySem.W.fnOf "split_row" "split_row" (defArgs s_split_row) (defBody s_split_row) (defScope s_split_row) .none kV_split_row dc_split_row pm_split_row an_split_row cd_split_row ct_split_row), sl_split_row⟩)
    (c_split_row_ : PySem.W.codeIn K cd_split_row "split_row" = true)
    (k_split_row : PySem.W.keepIn K (.ref f_split_row) = true)
    (a_is_small_letter : PySem.W.nsIn K mainGlobals "is_small_letter" = some (some (.ref f_is_small_letter)))
    (l_is_small_letter : K.lookup f_is_small_letter = some ⟨oc_is_small_letter, od_is_small_letter, .func (PySem.W.fnOf "is_small_letter" "is_small_letter" (defArgs s_is_small_letter) (defBody s_is_small_letter) (defScope s_is_small_letter) .none kV_is_small_letter dc_is_small_letter pm_is_small_letter an_is_small_letter cd_is_small_letter ct_is_small_letter), sl_is_small_letter⟩)
    (c_is_small_letter_ : PySem.W.codeIn K cd_is_small_letter "is_small_letter" = true)
    (k_is_small_letter : PySem.W.keepIn K (.ref f_is_small_letter) = true)
    (a_is_digit : PySem.W.nsIn K mainGlobals "is_digit" = some (some (.ref f_is_digit)))
    (l_is_digit : K.lookup f_is_digit = some ⟨oc_is_digit, od_is_digit, .func (PySem.W.fnOf "is_digit" "is_digit" (defArgs s_is_digit) (defBody s_is_digit) (defScope s_is_digit) .none kV_is_digit dc_is_digit pm_is_digit an_is_digit cd_is_digit ct_is_digit), sl_is_digit⟩)
    (c_is_digit_ : PySem.W.codeIn K cd_is_digit "is_digit" = true)
    (k_is_digit : PySem.W.keepIn K (.ref f_is_digit) = true)
    (a_number_of : PySem.W.nsIn K mainGlobals "number_of" = some (some (.ref f_number_of)))
    (l_number_of : K.lookup f_number_of = some ⟨oc_number_of, od_number_of, .func (PySem.W.fnOf "number_of" "number_of" (defArgs s_number_of) (defBody s_number_of) (defScope s_number_of) .none kV_number_of dc_number_of pm_number_of an_number_of cd_number_of ct_number_of), sl_number_of⟩)
    (c_number_of_ : PySem.W.codeIn K cd_number_of "number_of" = true)
    (k_number_of : PySem.W.keepIn K (.ref f_number_of) = true)
    (a_put_together : PySem.W.nsIn K mainGlobals "put_together" = some (some (.ref f_put_together)))
    (l_put_together : K.lookup f_put_together = some ⟨oc_put_together, od_put_together, .func (PySem.W.fnOf "put_together" "put_together" (defArgs s_put_together) (defBody s_put_together) (defScope s_put_together) .none kV_put_together dc_put_together pm_put_together an_put_together cd_put_together ct_put_together), sl_put_together⟩)
    (c_put_together_ : PySem.W.codeIn K cd_put_together "put_together" = true)
    (k_put_together : PySem.W.keepIn K (.ref f_put_together) = true)
    (a_is_ended : PySem.W.nsIn K mainGlobals "is_ended" = some (some (.ref f_is_ended)))
    (l_is_ended : K.lookup f_is_ended = some ⟨oc_is_ended, od_is_ended, .func (PySem.W.fnOf "is_ended" "is_ended" (defArgs s_is_ended) (defBody s_is_ended) (defScope s_is_ended) .none kV_is_ended dc_is_ended pm_is_ended an_is_ended cd_is_ended ct_is_ended), sl_is_ended⟩)
    (c_is_ended_ : PySem.W.codeIn K cd_is_ended "is_ended" = true)
    (k_is_ended : PySem.W.keepIn K (.ref f_is_ended) = true)
    (a_lines_of : PySem.W.nsIn K mainGlobals "lines_of" = some (some (.ref f_lines_of)))
    (l_lines_of : K.lookup f_lines_of = some ⟨oc_lines_of, od_lines_of, .func (PySem.W.fnOf "lines_of" "lines_of" (defArgs s_lines_of) (defBody s_lines_of) (defScope s_lines_of) .none kV_lines_of dc_lines_of pm_lines_of an_lines_of cd_lines_of ct_lines_of), sl_lines_of⟩)
    (c_lines_of_ : PySem.W.codeIn K cd_lines_of "lines_of" = true)
    (k_lines_of : PySem.W.keepIn K (.ref f_lines_of) = true)
    (a_cut_line : PySem.W.nsIn K mainGlobals "cut_line" = some (some (.ref f_cut_line)))
    (l_cut_line : K.lookup f_cut_line = some ⟨oc_cut_line, od_cut_line, .func (PySem.W.fnOf "cut_line" "cut_line" (defArgs s_cut_line) (defBody s_cut_line) (defScope s_cut_line) .none kV_cut_line dc_cut_line pm_cut_line an_cut_line cd_cut_line ct_cut_line), sl_cut_line⟩)
    (c_cut_line_ : PySem.W.codeIn K cd_cut_line "cut_line" = true)
    (k_cut_line : PySem.W.keepIn K (.ref f_cut_line) = true)
    (a_may_stand_in_line_name : PySem.W.nsIn K mainGlobals "may_stand_in_line_name" = some (some (.ref f_may_stand_in_line_name)))
    (l_may_stand_in_line_name : K.lookup f_may_stand_in_line_name = some ⟨oc_may_stand_in_line_name, od_may_stand_in_line_name, .func (PySem.W.fnOf "may_stand_in_line_name" "may_stand_in_line_name" (defArgs s_may_stand_in_line_name) (defBody s_may_stand_in_line_name) (defScope s_may_stand_in_line_name) .none kV_may_stand_in_line_name dc_may_stand_in_line_name pm_may_stand_in_line_name an_may_stand_in_line_name cd_may_stand_in_line_name ct_may_stand_in_line_name), sl_may_stand_in_line_name⟩)
    (c_may_stand_in_line_name_ : PySem.W.codeIn K cd_may_stand_in_line_name "may_stand_in_line_name" = true)
    (k_may_stand_in_line_name : PySem.W.keepIn K (.ref f_may_stand_in_line_name) = true)
    (a_name_size : PySem.W.nsIn K mainGlobals "name_size" = some (some (.ref f_name_size)))
    (l_name_size : K.lookup f_name_size = some ⟨oc_name_size, od_name_size, .func (PySem.W.fnOf "name_size" "name_size" (defArgs s_name_size) (defBody s_name_size) (defScope s_name_size) .none kV_name_size dc_name_size pm_name_size an_name_size cd_name_size ct_name_size), sl_name_size⟩)
    (c_name_size_ : PySem.W.codeIn K cd_name_size "name_size" = true)
    (k_name_size : PySem.W.keepIn K (.ref f_name_size) = true)
    (a_is_other_name : PySem.W.nsIn K mainGlobals "is_other_name" = some (some (.ref f_is_other_name)))
    (l_is_other_name : K.lookup f_is_other_name = some ⟨oc_is_other_name, od_is_other_name, .func (PySem.W.fnOf "is_other_name" "is_other_name" (defArgs s_is_other_name) (defBody s_is_other_name) (defScope s_is_other_name) .none kV_is_other_name dc_is_other_name pm_is_other_name an_is_other_name cd_is_other_name ct_is_other_name), sl_is_other_name⟩)
    (c_is_other_name_ : PySem.W.codeIn K cd_is_other_name "is_other_name" = true)
    (k_is_other_name : PySem.W.keepIn K (.ref f_is_other_name) = true)
    (a_Date_init : PySem.W.findIn K (.ref c_Date) "__init__" = some (some (.ref f_Date_init)))
    (i_Date_init : PySem.W.isFn K (.ref f_Date_init) = true)
    (l_Date_init : K.lookup f_Date_init = some ⟨oc_Date_init, od_Date_init, .func (PySem.W.fnOf "__init__" "Date.__init__" (defArgs s_Date_init) (defBody s_Date_init) (defScope s_Date_init) .none kV_Date_init dc_Date_init pm_Date_init an_Date_init cd_Date_init ct_Date_init), sl_Date_init⟩)
    (c_Date_init_ : PySem.W.codeIn K cd_Date_init "Date.__init__" = true)
    (k_Date_init : PySem.W.keepIn K (.ref f_Date_init) = true)
    (a_Calendar_init : PySem.W.findIn K (.ref c_Calendar) "__init__" = some (some (.ref f_Calendar_init)))
    (i_Calendar_init : PySem.W.isFn K (.ref f_Calendar_init) = true)
    (l_Calendar_init : K.lookup f_Calendar_init = some ⟨oc_Calendar_init, od_Calendar_init, .func (PySem.W.fnOf "__init__" "Calendar.__init__" (defArgs s_Calendar_init) (defBody s_Calendar_init) (defScope s_Calendar_init) .none kV_Calendar_init dc_Calendar_init pm_Calendar_init an_Calendar_init cd_Calendar_init ct_Calendar_init), sl_Calendar_init⟩)
    (c_Calendar_init_ : PySem.W.codeIn K cd_Calendar_init "Calendar.__init__" = true)
    (k_Calendar_init : PySem.W.keepIn K (.ref f_Calendar_init) = true)
    (a_days_of_year : PySem.W.nsIn K mainGlobals "days_of_year" = some (some (.ref f_days_of_year)))
    (l_days_of_year : K.lookup f_days_of_year = some ⟨oc_days_of_year, od_days_of_year, .func (PySem.W.fnOf "days_of_year" "days_of_year" (defArgs s_days_of_year) (defBody s_days_of_year) (defScope s_days_of_year) .none kV_days_of_year dc_days_of_year pm_days_of_year an_days_of_year cd_days_of_year ct_days_of_year), sl_days_of_year⟩)
    (c_days_of_year_ : PySem.W.codeIn K cd_days_of_year "days_of_year" = true)
    (k_days_of_year : PySem.W.keepIn K (.ref f_days_of_year) = true)
    (a_days_of_month : PySem.W.nsIn K mainGlobals "days_of_month" = some (some (.ref f_days_of_month)))
    (l_days_of_month : K.lookup f_days_of_month = some ⟨oc_days_of_month, od_days_of_month, .func (PySem.W.fnOf "days_of_month" "days_of_month" (defArgs s_days_of_month) (defBody s_days_of_month) (defScope s_days_of_month) .none kV_days_of_month dc_days_of_month pm_days_of_month an_days_of_month cd_days_of_month ct_days_of_month), sl_days_of_month⟩)
    (c_days_of_month_ : PySem.W.codeIn K cd_days_of_month "days_of_month" = true)
    (k_days_of_month : PySem.W.keepIn K (.ref f_days_of_month) = true)
    (a_is_day : PySem.W.nsIn K mainGlobals "is_day" = some (some (.ref f_is_day)))
    (l_is_day : K.lookup f_is_day = some ⟨oc_is_day, od_is_day, .func (PySem.W.fnOf "is_day" "is_day" (defArgs s_is_day) (defBody s_is_day) (defScope s_is_day) .none kV_is_day dc_is_day pm_is_day an_is_day cd_is_day ct_is_day), sl_is_day⟩)
    (c_is_day_ : PySem.W.codeIn K cd_is_day "is_day" = true)
    (k_is_day : PySem.W.keepIn K (.ref f_is_day) = true)
    (a_is_minute : PySem.W.nsIn K mainGlobals "is_minute" = some (some (.ref f_is_minute)))
    (l_is_minute : K.lookup f_is_minute = some ⟨oc_is_minute, od_is_minute, .func (PySem.W.fnOf "is_minute" "is_minute" (defArgs s_is_minute) (defBody s_is_minute) (defScope s_is_minute) .none kV_is_minute dc_is_minute pm_is_minute an_is_minute cd_is_minute ct_is_minute), sl_is_minute⟩)
    (c_is_minute_ : PySem.W.codeIn K cd_is_minute "is_minute" = true)
    (k_is_minute : PySem.W.keepIn K (.ref f_is_minute) = true)
    (a_day_number : PySem.W.nsIn K mainGlobals "day_number" = some (some (.ref f_day_number)))
    (l_day_number : K.lookup f_day_number = some ⟨oc_day_number, od_day_number, .func (PySem.W.fnOf "day_number" "day_number" (defArgs s_day_number) (defBody s_day_number) (defScope s_day_number) .none kV_day_number dc_day_number pm_day_number an_day_number cd_day_number ct_day_number), sl_day_number⟩)
    (c_day_number_ : PySem.W.codeIn K cd_day_number "day_number" = true)
    (k_day_number : PySem.W.keepIn K (.ref f_day_number) = true)
    (a_day_parts : PySem.W.nsIn K mainGlobals "day_parts" = some (some (.ref f_day_parts)))
    (l_day_parts : K.lookup f_day_parts = some ⟨oc_day_parts, od_day_parts, .func (PySem.W.fnOf "day_parts" "day_parts" (defArgs s_day_parts) (defBody s_day_parts) (defScope s_day_parts) .none kV_day_parts dc_day_parts pm_day_parts an_day_parts cd_day_parts ct_day_parts), sl_day_parts⟩)
    (c_day_parts_ : PySem.W.codeIn K cd_day_parts "day_parts" = true)
    (k_day_parts : PySem.W.keepIn K (.ref f_day_parts) = true)
    (a_two_digits : PySem.W.nsIn K mainGlobals "two_digits" = some (some (.ref f_two_digits)))
    (l_two_digits : K.lookup f_two_digits = some ⟨oc_two_digits, od_two_digits, .func (PySem.W.fnOf "two_digits" "two_digits" (defArgs s_two_digits) (defBody s_two_digits) (defScope s_two_digits) .none kV_two_digits dc_two_digits pm_two_digits an_two_digits cd_two_digits ct_two_digits), sl_two_digits⟩)
    (c_two_digits_ : PySem.W.codeIn K cd_two_digits "two_digits" = true)
    (k_two_digits : PySem.W.keepIn K (.ref f_two_digits) = true)
    (a_tell_time : PySem.W.nsIn K mainGlobals "tell_time" = some (some (.ref f_tell_time)))
    (l_tell_time : K.lookup f_tell_time = some ⟨oc_tell_time, od_tell_time, .func (PySem.W.fnOf "tell_time" "tell_time" (defArgs s_tell_time) (defBody s_tell_time) (defScope s_tell_time) .none kV_tell_time dc_tell_time pm_tell_time an_tell_time cd_tell_time ct_tell_time), sl_tell_time⟩)
    (c_tell_time_ : PySem.W.codeIn K cd_tell_time "tell_time" = true)
    (k_tell_time : PySem.W.keepIn K (.ref f_tell_time) = true)
    (a_has_time_form : PySem.W.nsIn K mainGlobals "has_time_form" = some (some (.ref f_has_time_form)))
    (l_has_time_form : K.lookup f_has_time_form = some ⟨oc_has_time_form, od_has_time_form, .func (PySem.W.fnOf "has_time_form" "has_time_form" (defArgs s_has_time_form) (defBody s_has_time_form) (defScope s_has_time_form) .none kV_has_time_form dc_has_time_form pm_has_time_form an_has_time_form cd_has_time_form ct_has_time_form), sl_has_time_form⟩)
    (c_has_time_form_ : PySem.W.codeIn K cd_has_time_form "has_time_form" = true)
    (k_has_time_form : PySem.W.keepIn K (.ref f_has_time_form) = true)
    (a_read_time : PySem.W.nsIn K mainGlobals "read_time" = some (some (.ref f_read_time)))
    (l_read_time : K.lookup f_read_time = some ⟨oc_read_time, od_read_time, .func (PySem.W.fnOf "read_time" "read_time" (defArgs s_read_time) (defBody s_read_time) (defScope s_read_time) .none kV_read_time dc_read_time pm_read_time an_read_time cd_read_time ct_read_time), sl_read_time⟩)
    (c_read_time_ : PySem.W.codeIn K cd_read_time "read_time" = true)
    (k_read_time : PySem.W.keepIn K (.ref f_read_time) = true)
    (a_may_stand_in_name : PySem.W.nsIn K mainGlobals "may_stand_in_name" = some (some (.ref f_may_stand_in_name)))
    (l_may_stand_in_name : K.lookup f_may_stand_in_name = some ⟨oc_may_stand_in_name, od_may_stand_in_name, .func (PySem.W.fnOf "may_stand_in_name" "may_stand_in_name" (defArgs s_may_stand_in_name) (defBody s_may_stand_in_name) (defScope s_may_stand_in_name) .none kV_may_stand_in_name dc_may_stand_in_name pm_may_stand_in_name an_may_stand_in_name cd_may_stand_in_name ct_may_stand_in_name), sl_may_stand_in_name⟩)
    (c_may_stand_in_name_ : PySem.W.codeIn K cd_may_stand_in_name "may_stand_in_name" = true)
    (k_may_stand_in_name : PySem.W.keepIn K (.ref f_may_stand_in_name) = true)
    (a_is_name : PySem.W.nsIn K mainGlobals "is_name" = some (some (.ref f_is_name)))
    (l_is_name : K.lookup f_is_name = some ⟨oc_is_name, od_is_name, .func (PySem.W.fnOf "is_name" "is_name" (defArgs s_is_name) (defBody s_is_name) (defScope s_is_name) .none kV_is_name dc_is_name pm_is_name an_is_name cd_is_name ct_is_name), sl_is_name⟩)
    (c_is_name_ : PySem.W.codeIn K cd_is_name "is_name" = true)
    (k_is_name : PySem.W.keepIn K (.ref f_is_name) = true)
    (a_tell_name : PySem.W.nsIn K mainGlobals "tell_name" = some (some (.ref f_tell_name)))
    (l_tell_name : K.lookup f_tell_name = some ⟨oc_tell_name, od_tell_name, .func (PySem.W.fnOf "tell_name" "tell_name" (defArgs s_tell_name) (defBody s_tell_name) (defScope s_tell_name) .none kV_tell_name dc_tell_name pm_tell_name an_tell_name cd_tell_name ct_tell_name), sl_tell_name⟩)
    (c_tell_name_ : PySem.W.codeIn K cd_tell_name "tell_name" = true)
    (k_tell_name : PySem.W.keepIn K (.ref f_tell_name) = true)
    (a_read_name : PySem.W.nsIn K mainGlobals "read_name" = some (some (.ref f_read_name)))
    (l_read_name : K.lookup f_read_name = some ⟨oc_read_name, od_read_name, .func (PySem.W.fnOf "read_name" "read_name" (defArgs s_read_name) (defBody s_read_name) (defScope s_read_name) .none kV_read_name dc_read_name pm_read_name an_read_name cd_read_name ct_read_name), sl_read_name⟩)
    (c_read_name_ : PySem.W.codeIn K cd_read_name "read_name" = true)
    (k_read_name : PySem.W.keepIn K (.ref f_read_name) = true)
    (a_read_number : PySem.W.nsIn K mainGlobals "read_number" = some (some (.ref f_read_number)))
    (l_read_number : K.lookup f_read_number = some ⟨oc_read_number, od_read_number, .func (PySem.W.fnOf "read_number" "read_number" (defArgs s_read_number) (defBody s_read_number) (defScope s_read_number) .none kV_read_number dc_read_number pm_read_number an_read_number cd_read_number ct_read_number), sl_read_number⟩)
    (c_read_number_ : PySem.W.codeIn K cd_read_number "read_number" = true)
    (k_read_number : PySem.W.keepIn K (.ref f_read_number) = true)
    (a_is_tag : PySem.W.nsIn K mainGlobals "is_tag" = some (some (.ref f_is_tag)))
    (l_is_tag : K.lookup f_is_tag = some ⟨oc_is_tag, od_is_tag, .func (PySem.W.fnOf "is_tag" "is_tag" (defArgs s_is_tag) (defBody s_is_tag) (defScope s_is_tag) .none kV_is_tag dc_is_tag pm_is_tag an_is_tag cd_is_tag ct_is_tag), sl_is_tag⟩)
    (c_is_tag_ : PySem.W.codeIn K cd_is_tag "is_tag" = true)
    (k_is_tag : PySem.W.keepIn K (.ref f_is_tag) = true)
    (a_read_tags : PySem.W.nsIn K mainGlobals "read_tags" = some (some (.ref f_read_tags)))
    (l_read_tags : K.lookup f_read_tags = some ⟨oc_read_tags, od_read_tags, .func (PySem.W.fnOf "read_tags" "read_tags" (defArgs s_read_tags) (defBody s_read_tags) (defScope s_read_tags) .none kV_read_tags dc_read_tags pm_read_tags an_read_tags cd_read_tags ct_read_tags), sl_read_tags⟩)
    (c_read_tags_ : PySem.W.codeIn K cd_read_tags "read_tags" = true)
    (k_read_tags : PySem.W.keepIn K (.ref f_read_tags) = true)
    (a_Reading_init : PySem.W.findIn K (.ref c_Reading) "__init__" = some (some (.ref f_Reading_init)))
    (i_Reading_init : PySem.W.isFn K (.ref f_Reading_init) = true)
    (l_Reading_init : K.lookup f_Reading_init = some ⟨oc_Reading_init, od_Reading_init, .func (PySem.W.fnOf "__init__" "Reading.__init__" (defArgs s_Reading_init) (defBody s_Reading_init) (defScope s_Reading_init) .none kV_Reading_init dc_Reading_init pm_Reading_init an_Reading_init cd_Reading_init ct_Reading_init), sl_Reading_init⟩)
    (c_Reading_init_ : PySem.W.codeIn K cd_Reading_init "Reading.__init__" = true)
    (k_Reading_init : PySem.W.keepIn K (.ref f_Reading_init) = true)
    (a_told_fault : PySem.W.nsIn K mainGlobals "told_fault" = some (some (.ref f_told_fault)))
    (l_told_fault : K.lookup f_told_fault = some ⟨oc_told_fault, od_told_fault, .func (PySem.W.fnOf "told_fault" "told_fault" (defArgs s_told_fault) (defBody s_told_fault) (defScope s_told_fault) .none kV_told_fault dc_told_fault pm_told_fault an_told_fault cd_told_fault ct_told_fault), sl_told_fault⟩)
    (c_told_fault_ : PySem.W.codeIn K cd_told_fault "told_fault" = true)
    (k_told_fault : PySem.W.keepIn K (.ref f_told_fault) = true)
    (a_read_title : PySem.W.nsIn K mainGlobals "read_title" = some (some (.ref f_read_title)))
    (l_read_title : K.lookup f_read_title = some ⟨oc_read_title, od_read_title, .func (PySem.W.fnOf "read_title" "read_title" (defArgs s_read_title) (defBody s_read_title) (defScope s_read_title) .none kV_read_title dc_read_title pm_read_title an_read_title cd_read_title ct_read_title), sl_read_title⟩)
    (c_read_title_ : PySem.W.codeIn K cd_read_title "read_title" = true)
    (k_read_title : PySem.W.keepIn K (.ref f_read_title) = true)
    (a_read_begin : PySem.W.nsIn K mainGlobals "read_begin" = some (some (.ref f_read_begin)))
    (l_read_begin : K.lookup f_read_begin = some ⟨oc_read_begin, od_read_begin, .func (PySem.W.fnOf "read_begin" "read_begin" (defArgs s_read_begin) (defBody s_read_begin) (defScope s_read_begin) .none kV_read_begin dc_read_begin pm_read_begin an_read_begin cd_read_begin ct_read_begin), sl_read_begin⟩)
    (c_read_begin_ : PySem.W.codeIn K cd_read_begin "read_begin" = true)
    (k_read_begin : PySem.W.keepIn K (.ref f_read_begin) = true)
    (a_read_end : PySem.W.nsIn K mainGlobals "read_end" = some (some (.ref f_read_end)))
    (l_read_end : K.lookup f_read_end = some ⟨oc_read_end, od_read_end, .func (PySem.W.fnOf "read_end" "read_end" (defArgs s_read_end) (defBody s_read_end) (defScope s_read_end) .none kV_read_end dc_read_end pm_read_end an_read_end cd_read_end ct_read_end), sl_read_end⟩)
    (c_read_end_ : PySem.W.codeIn K cd_read_end "read_end" = true)
    (k_read_end : PySem.W.keepIn K (.ref f_read_end) = true)
    (a_read_date_name : PySem.W.nsIn K mainGlobals "read_date_name" = some (some (.ref f_read_date_name)))
    (l_read_date_name : K.lookup f_read_date_name = some ⟨oc_read_date_name, od_read_date_name, .func (PySem.W.fnOf "read_date_name" "read_date_name" (defArgs s_read_date_name) (defBody s_read_date_name) (defScope s_read_date_name) .none kV_read_date_name dc_read_date_name pm_read_date_name an_read_date_name cd_read_date_name ct_read_date_name), sl_read_date_name⟩)
    (c_read_date_name_ : PySem.W.codeIn K cd_read_date_name "read_date_name" = true)
    (k_read_date_name : PySem.W.keepIn K (.ref f_read_date_name) = true)
    (a_read_at : PySem.W.nsIn K mainGlobals "read_at" = some (some (.ref f_read_at)))
    (l_read_at : K.lookup f_read_at = some ⟨oc_read_at, od_read_at, .func (PySem.W.fnOf "read_at" "read_at" (defArgs s_read_at) (defBody s_read_at) (defScope s_read_at) .none kV_read_at dc_read_at pm_read_at an_read_at cd_read_at ct_read_at), sl_read_at⟩)
    (c_read_at_ : PySem.W.codeIn K cd_read_at "read_at" = true)
    (k_read_at : PySem.W.keepIn K (.ref f_read_at) = true)
    (a_read_long : PySem.W.nsIn K mainGlobals "read_long" = some (some (.ref f_read_long)))
    (l_read_long : K.lookup f_read_long = some ⟨oc_read_long, od_read_long, .func (PySem.W.fnOf "read_long" "read_long" (defArgs s_read_long) (defBody s_read_long) (defScope s_read_long) .none kV_read_long dc_read_long pm_read_long an_read_long cd_read_long ct_read_long), sl_read_long⟩)
    (c_read_long_ : PySem.W.codeIn K cd_read_long "read_long" = true)
    (k_read_long : PySem.W.keepIn K (.ref f_read_long) = true)
    (a_read_ring : PySem.W.nsIn K mainGlobals "read_ring" = some (some (.ref f_read_ring)))
    (l_read_ring : K.lookup f_read_ring = some ⟨oc_read_ring, od_read_ring, .func (PySem.W.fnOf "read_ring" "read_ring" (defArgs s_read_ring) (defBody s_read_ring) (defScope s_read_ring) .none kV_read_ring dc_read_ring pm_read_ring an_read_ring cd_read_ring ct_read_ring), sl_read_ring⟩)
    (c_read_ring_ : PySem.W.codeIn K cd_read_ring "read_ring" = true)
    (k_read_ring : PySem.W.keepIn K (.ref f_read_ring) = true)
    (a_has_one_twice : PySem.W.nsIn K mainGlobals "has_one_twice" = some (some (.ref f_has_one_twice)))
    (l_has_one_twice : K.lookup f_has_one_twice = some ⟨oc_has_one_twice, od_has_one_twice, .func (PySem.W.fnOf "has_one_twice" "has_one_twice" (defArgs s_has_one_twice) (defBody s_has_one_twice) (defScope s_has_one_twice) .none kV_has_one_twice dc_has_one_twice pm_has_one_twice an_has_one_twice cd_has_one_twice ct_has_one_twice), sl_has_one_twice⟩)
    (c_has_one_twice_ : PySem.W.codeIn K cd_has_one_twice "has_one_twice" = true)
    (k_has_one_twice : PySem.W.keepIn K (.ref f_has_one_twice) = true)
    (a_read_tag : PySem.W.nsIn K mainGlobals "read_tag" = some (some (.ref f_read_tag)))
    (l_read_tag : K.lookup f_read_tag = some ⟨oc_read_tag, od_read_tag, .func (PySem.W.fnOf "read_tag" "read_tag" (defArgs s_read_tag) (defBody s_read_tag) (defScope s_read_tag) .none kV_read_tag dc_read_tag pm_read_tag an_read_tag cd_read_tag ct_read_tag), sl_read_tag⟩)
    (c_read_tag_ : PySem.W.codeIn K cd_read_tag "read_tag" = true)
    (k_read_tag : PySem.W.keepIn K (.ref f_read_tag) = true)
    (a_read_other : PySem.W.nsIn K mainGlobals "read_other" = some (some (.ref f_read_other)))
    (l_read_other : K.lookup f_read_other = some ⟨oc_read_other, od_read_other, .func (PySem.W.fnOf "read_other" "read_other" (defArgs s_read_other) (defBody s_read_other) (defScope s_read_other) .none kV_read_other dc_read_other pm_read_other an_read_other cd_read_other ct_read_other), sl_read_other⟩)
    (c_read_other_ : PySem.W.codeIn K cd_read_other "read_other" = true)
    (k_read_other : PySem.W.keepIn K (.ref f_read_other) = true)
    (a_read_outside : PySem.W.nsIn K mainGlobals "read_outside" = some (some (.ref f_read_outside)))
    (l_read_outside : K.lookup f_read_outside = some ⟨oc_read_outside, od_read_outside, .func (PySem.W.fnOf "read_outside" "read_outside" (defArgs s_read_outside) (defBody s_read_outside) (defScope s_read_outside) .none kV_read_outside dc_read_outside pm_read_outside an_read_outside cd_read_outside ct_read_outside), sl_read_outside⟩)
    (c_read_outside_ : PySem.W.codeIn K cd_read_outside "read_outside" = true)
    (k_read_outside : PySem.W.keepIn K (.ref f_read_outside) = true)
    (a_read_within : PySem.W.nsIn K mainGlobals "read_within" = some (some (.ref f_read_within)))
    (l_read_within : K.lookup f_read_within = some ⟨oc_read_within, od_read_within, .func (PySem.W.fnOf "read_within" "read_within" (defArgs s_read_within) (defBody s_read_within) (defScope s_read_within) .none kV_read_within dc_read_within pm_read_within an_read_within cd_read_within ct_read_within), sl_read_within⟩)
    (c_read_within_ : PySem.W.codeIn K cd_read_within "read_within" = true)
    (k_read_within : PySem.W.keepIn K (.ref f_read_within) = true)
    (a_read_line : PySem.W.nsIn K mainGlobals "read_line" = some (some (.ref f_read_line)))
    (l_read_line : K.lookup f_read_line = some ⟨oc_read_line, od_read_line, .func (PySem.W.fnOf "read_line" "read_line" (defArgs s_read_line) (defBody s_read_line) (defScope s_read_line) .none kV_read_line dc_read_line pm_read_line an_read_line cd_read_line ct_read_line), sl_read_line⟩)
    (c_read_line_ : PySem.W.codeIn K cd_read_line "read_line" = true)
    (k_read_line : PySem.W.keepIn K (.ref f_read_line) = true)
    (a_read_lines : PySem.W.nsIn K mainGlobals "read_lines" = some (some (.ref f_read_lines)))
    (l_read_lines : K.lookup f_read_lines = some ⟨oc_read_lines, od_read_lines, .func (PySem.W.fnOf "read_lines" "read_lines" (defArgs s_read_lines) (defBody s_read_lines) (defScope s_read_lines) .none kV_read_lines dc_read_lines pm_read_lines an_read_lines cd_read_lines ct_read_lines), sl_read_lines⟩)
    (c_read_lines_ : PySem.W.codeIn K cd_read_lines "read_lines" = true)
    (k_read_lines : PySem.W.keepIn K (.ref f_read_lines) = true)
    (a_read : PySem.W.nsIn K mainGlobals "read" = some (some (.ref f_read)))
    (l_read : K.lookup f_read = some ⟨oc_read, od_read, .func (PySem.W.fnOf "read" "read" (defArgs s_read) (defBody s_read) (defScope s_read) .none kV_read dc_read pm_read an_read cd_read ct_read), sl_read⟩)
    (c_read_ : PySem.W.codeIn K cd_read "read" = true)
    (k_read : PySem.W.keepIn K (.ref f_read) = true)
    (a_date_numbers : PySem.W.nsIn K mainGlobals "date_numbers" = some (some (.ref f_date_numbers)))
    (l_date_numbers : K.lookup f_date_numbers = some ⟨oc_date_numbers, od_date_numbers, .func (PySem.W.fnOf "date_numbers" "date_numbers" (defArgs s_date_numbers) (defBody s_date_numbers) (defScope s_date_numbers) .none kV_date_numbers dc_date_numbers pm_date_numbers an_date_numbers cd_date_numbers ct_date_numbers), sl_date_numbers⟩)
    (c_date_numbers_ : PySem.W.codeIn K cd_date_numbers "date_numbers" = true)
    (k_date_numbers : PySem.W.keepIn K (.ref f_date_numbers) = true)
    (a_dates_with_tag : PySem.W.nsIn K mainGlobals "dates_with_tag" = some (some (.ref f_dates_with_tag)))
    (l_dates_with_tag : K.lookup f_dates_with_tag = some ⟨oc_dates_with_tag, od_dates_with_tag, .func (PySem.W.fnOf "dates_with_tag" "dates_with_tag" (defArgs s_dates_with_tag) (defBody s_dates_with_tag) (defScope s_dates_with_tag) .none kV_dates_with_tag dc_dates_with_tag pm_dates_with_tag an_dates_with_tag cd_dates_with_tag ct_dates_with_tag), sl_dates_with_tag⟩)
    (c_dates_with_tag_ : PySem.W.codeIn K cd_dates_with_tag "dates_with_tag" = true)
    (k_dates_with_tag : PySem.W.keepIn K (.ref f_dates_with_tag) = true)
    (a_has_the_same : PySem.W.nsIn K mainGlobals "has_the_same" = some (some (.ref f_has_the_same)))
    (l_has_the_same : K.lookup f_has_the_same = some ⟨oc_has_the_same, od_has_the_same, .func (PySem.W.fnOf "has_the_same" "has_the_same" (defArgs s_has_the_same) (defBody s_has_the_same) (defScope s_has_the_same) .none kV_has_the_same dc_has_the_same pm_has_the_same an_has_the_same cd_has_the_same ct_has_the_same), sl_has_the_same⟩)
    (c_has_the_same_ : PySem.W.codeIn K cd_has_the_same "has_the_same" = true)
    (k_has_the_same : PySem.W.keepIn K (.ref f_has_the_same) = true)
    (a_compare : PySem.W.nsIn K mainGlobals "compare" = some (some (.ref f_compare)))
    (l_compare : K.lookup f_compare = some ⟨oc_compare, od_compare, .func (PySem.W.fnOf "compare" "compare" (defArgs s_compare) (defBody s_compare) (defScope s_compare) .none kV_compare dc_compare pm_compare an_compare cd_compare ct_compare), sl_compare⟩)
    (c_compare_ : PySem.W.codeIn K cd_compare "compare" = true)
    (k_compare : PySem.W.keepIn K (.ref f_compare) = true)
    (a_cut_given : PySem.W.nsIn K mainGlobals "cut_given" = some (some (.ref f_cut_given)))
    (l_cut_given : K.lookup f_cut_given = some ⟨oc_cut_given, od_cut_given, .func (PySem.W.fnOf "cut_given" "cut_given" (defArgs s_cut_given) (defBody s_cut_given) (defScope s_cut_given) .none kV_cut_given dc_cut_given pm_cut_given an_cut_given cd_cut_given ct_cut_given), sl_cut_given⟩)
    (c_cut_given_ : PySem.W.codeIn K cd_cut_given "cut_given" = true)
    (k_cut_given : PySem.W.keepIn K (.ref f_cut_given) = true)
    (a_load : PySem.W.nsIn K mainGlobals "load" = some (some (.ref f_load)))
    (l_load : K.lookup f_load = some ⟨oc_load, od_load, .func (PySem.W.fnOf "load" "load" (defArgs s_load) (defBody s_load) (defScope s_load) .none kV_load dc_load pm_load an_load cd_load ct_load), sl_load⟩)
    (c_load_ : PySem.W.codeIn K cd_load "load" = true)
    (k_load : PySem.W.keepIn K (.ref f_load) = true)
    (a_add_date : PySem.W.nsIn K mainGlobals "add_date" = some (some (.ref f_add_date)))
    (l_add_date : K.lookup f_add_date = some ⟨oc_add_date, od_add_date, .func (PySem.W.fnOf "add_date" "add_date" (defArgs s_add_date) (defBody s_add_date) (defScope s_add_date) .none kV_add_date dc_add_date pm_add_date an_add_date cd_add_date ct_add_date), sl_add_date⟩)
    (c_add_date_ : PySem.W.codeIn K cd_add_date "add_date" = true)
    (k_add_date : PySem.W.keepIn K (.ref f_add_date) = true)
    (a_drop_date : PySem.W.nsIn K mainGlobals "drop_date" = some (some (.ref f_drop_date)))
    (l_drop_date : K.lookup f_drop_date = some ⟨oc_drop_date, od_drop_date, .func (PySem.W.fnOf "drop_date" "drop_date" (defArgs s_drop_date) (defBody s_drop_date) (defScope s_drop_date) .none kV_drop_date dc_drop_date pm_drop_date an_drop_date cd_drop_date ct_drop_date), sl_drop_date⟩)
    (c_drop_date_ : PySem.W.codeIn K cd_drop_date "drop_date" = true)
    (k_drop_date : PySem.W.keepIn K (.ref f_drop_date) = true)
    (a_set_title : PySem.W.nsIn K mainGlobals "set_title" = some (some (.ref f_set_title)))
    (l_set_title : K.lookup f_set_title = some ⟨oc_set_title, od_set_title, .func (PySem.W.fnOf "set_title" "set_title" (defArgs s_set_title) (defBody s_set_title) (defScope s_set_title) .none kV_set_title dc_set_title pm_set_title an_set_title cd_set_title ct_set_title), sl_set_title⟩)
    (c_set_title_ : PySem.W.codeIn K cd_set_title "set_title" = true)
    (k_set_title : PySem.W.keepIn K (.ref f_set_title) = true)
    (a_set_name : PySem.W.nsIn K mainGlobals "set_name" = some (some (.ref f_set_name)))
    (l_set_name : K.lookup f_set_name = some ⟨oc_set_name, od_set_name, .func (PySem.W.fnOf "set_name" "set_name" (defArgs s_set_name) (defBody s_set_name) (defScope s_set_name) .none kV_set_name dc_set_name pm_set_name an_set_name cd_set_name ct_set_name), sl_set_name⟩)
    (c_set_name_ : PySem.W.codeIn K cd_set_name "set_name" = true)
    (k_set_name : PySem.W.keepIn K (.ref f_set_name) = true)
    (a_set_length : PySem.W.nsIn K mainGlobals "set_length" = some (some (.ref f_set_length)))
    (l_set_length : K.lookup f_set_length = some ⟨oc_set_length, od_set_length, .func (PySem.W.fnOf "set_length" "set_length" (defArgs s_set_length) (defBody s_set_length) (defScope s_set_length) .none kV_set_length dc_set_length pm_set_length an_set_length cd_set_length ct_set_length), sl_set_length⟩)
    (c_set_length_ : PySem.W.codeIn K cd_set_length "set_length" = true)
    (k_set_length : PySem.W.keepIn K (.ref f_set_length) = true)
    (a_switch_ring : PySem.W.nsIn K mainGlobals "switch_ring" = some (some (.ref f_switch_ring)))
    (l_switch_ring : K.lookup f_switch_ring = some ⟨oc_switch_ring, od_switch_ring, .func (PySem.W.fnOf "switch_ring" "switch_ring" (defArgs s_switch_ring) (defBody s_switch_ring) (defScope s_switch_ring) .none kV_switch_ring dc_switch_ring pm_switch_ring an_switch_ring cd_switch_ring ct_switch_ring), sl_switch_ring⟩)
    (c_switch_ring_ : PySem.W.codeIn K cd_switch_ring "switch_ring" = true)
    (k_switch_ring : PySem.W.keepIn K (.ref f_switch_ring) = true)
    (a_switch_tag : PySem.W.nsIn K mainGlobals "switch_tag" = some (some (.ref f_switch_tag)))
    (l_switch_tag : K.lookup f_switch_tag = some ⟨oc_switch_tag, od_switch_tag, .func (PySem.W.fnOf "switch_tag" "switch_tag" (defArgs s_switch_tag) (defBody s_switch_tag) (defScope s_switch_tag) .none kV_switch_tag dc_switch_tag pm_switch_tag an_switch_tag cd_switch_tag ct_switch_tag), sl_switch_tag⟩)
    (c_switch_tag_ : PySem.W.codeIn K cd_switch_tag "switch_tag" = true)
    (k_switch_tag : PySem.W.keepIn K (.ref f_switch_tag) = true)
    (a_add_other : PySem.W.nsIn K mainGlobals "add_other" = some (some (.ref f_add_other)))
    (l_add_other : K.lookup f_add_other = some ⟨oc_add_other, od_add_other, .func (PySem.W.fnOf "add_other" "add_other" (defArgs s_add_other) (defBody s_add_other) (defScope s_add_other) .none kV_add_other dc_add_other pm_add_other an_add_other cd_add_other ct_add_other), sl_add_other⟩)
    (c_add_other_ : PySem.W.codeIn K cd_add_other "add_other" = true)
    (k_add_other : PySem.W.keepIn K (.ref f_add_other) = true)
    (a_line_of : PySem.W.nsIn K mainGlobals "line_of" = some (some (.ref f_line_of)))
    (l_line_of : K.lookup f_line_of = some ⟨oc_line_of, od_line_of, .func (PySem.W.fnOf "line_of" "line_of" (defArgs s_line_of) (defBody s_line_of) (defScope s_line_of) .none kV_line_of dc_line_of pm_line_of an_line_of cd_line_of ct_line_of), sl_line_of⟩)
    (c_line_of_ : PySem.W.codeIn K cd_line_of "line_of" = true)
    (k_line_of : PySem.W.keepIn K (.ref f_line_of) = true)
    (a_tell_tags : PySem.W.nsIn K mainGlobals "tell_tags" = some (some (.ref f_tell_tags)))
    (l_tell_tags : K.lookup f_tell_tags = some ⟨oc_tell_tags, od_tell_tags, .func (PySem.W.fnOf "tell_tags" "tell_tags" (defArgs s_tell_tags) (defBody s_tell_tags) (defScope s_tell_tags) .none kV_tell_tags dc_tell_tags pm_tell_tags an_tell_tags cd_tell_tags ct_tell_tags), sl_tell_tags⟩)
    (c_tell_tags_ : PySem.W.codeIn K cd_tell_tags "tell_tags" = true)
    (k_tell_tags : PySem.W.keepIn K (.ref f_tell_tags) = true)
    (a_date_lines : PySem.W.nsIn K mainGlobals "date_lines" = some (some (.ref f_date_lines)))
    (l_date_lines : K.lookup f_date_lines = some ⟨oc_date_lines, od_date_lines, .func (PySem.W.fnOf "date_lines" "date_lines" (defArgs s_date_lines) (defBody s_date_lines) (defScope s_date_lines) .none kV_date_lines dc_date_lines pm_date_lines an_date_lines cd_date_lines ct_date_lines), sl_date_lines⟩)
    (c_date_lines_ : PySem.W.codeIn K cd_date_lines "date_lines" = true)
    (k_date_lines : PySem.W.keepIn K (.ref f_date_lines) = true)
    (a_calendar_lines : PySem.W.nsIn K mainGlobals "calendar_lines" = some (some (.ref f_calendar_lines)))
    (l_calendar_lines : K.lookup f_calendar_lines = some ⟨oc_calendar_lines, od_calendar_lines, .func (PySem.W.fnOf "calendar_lines" "calendar_lines" (defArgs s_calendar_lines) (defBody s_calendar_lines) (defScope s_calendar_lines) .none kV_calendar_lines dc_calendar_lines pm_calendar_lines an_calendar_lines cd_calendar_lines ct_calendar_lines), sl_calendar_lines⟩)
    (c_calendar_lines_ : PySem.W.codeIn K cd_calendar_lines "calendar_lines" = true)
    (k_calendar_lines : PySem.W.keepIn K (.ref f_calendar_lines) = true)
    (a_tell : PySem.W.nsIn K mainGlobals "tell" = some (some (.ref f_tell)))
    (l_tell : K.lookup f_tell = some ⟨oc_tell, od_tell, .func (PySem.W.fnOf "tell" "tell" (defArgs s_tell) (defBody s_tell) (defScope s_tell) .none kV_tell dc_tell pm_tell an_tell cd_tell ct_tell), sl_tell⟩)
    (c_tell_ : PySem.W.codeIn K cd_tell "tell" = true)
    (k_tell : PySem.W.keepIn K (.ref f_tell) = true)
    (a_answer_about_date : PySem.W.nsIn K mainGlobals "answer_about_date" = some (some (.ref f_answer_about_date)))
    (l_answer_about_date : K.lookup f_answer_about_date = some ⟨oc_answer_about_date, od_answer_about_date, .func (PySem.W.fnOf "answer_about_date" "answer_about_date" (defArgs s_answer_about_date) (defBody s_answer_about_date) (defScope s_answer_about_date) .none kV_answer_about_date dc_answer_about_date pm_answer_about_date an_answer_about_date cd_answer_about_date ct_answer_about_date), sl_answer_about_date⟩)
    (c_answer_about_date_ : PySem.W.codeIn K cd_answer_about_date "answer_about_date" = true)
    (k_answer_about_date : PySem.W.keepIn K (.ref f_answer_about_date) = true)
    (a_answer_about_row : PySem.W.nsIn K mainGlobals "answer_about_row" = some (some (.ref f_answer_about_row)))
    (l_answer_about_row : K.lookup f_answer_about_row = some ⟨oc_answer_about_row, od_answer_about_row, .func (PySem.W.fnOf "answer_about_row" "answer_about_row" (defArgs s_answer_about_row) (defBody s_answer_about_row) (defScope s_answer_about_row) .none kV_answer_about_row dc_answer_about_row pm_answer_about_row an_answer_about_row cd_answer_about_row ct_answer_about_row), sl_answer_about_row⟩)
    (c_answer_about_row_ : PySem.W.codeIn K cd_answer_about_row "answer_about_row" = true)
    (k_answer_about_row : PySem.W.keepIn K (.ref f_answer_about_row) = true)
    (a_answer : PySem.W.nsIn K mainGlobals "answer" = some (some (.ref f_answer)))
    (l_answer : K.lookup f_answer = some ⟨oc_answer, od_answer, .func (PySem.W.fnOf "answer" "answer" (defArgs s_answer) (defBody s_answer) (defScope s_answer) .none kV_answer dc_answer pm_answer an_answer cd_answer ct_answer), sl_answer⟩)
    (c_answer_ : PySem.W.codeIn K cd_answer "answer" = true)
    (k_answer : PySem.W.keepIn K (.ref f_answer) = true)
    (a_answers : PySem.W.nsIn K mainGlobals "answers" = some (some (.ref f_answers)))
    (l_answers : K.lookup f_answers = some ⟨oc_answers, od_answers, .func (PySem.W.fnOf "answers" "answers" (defArgs s_answers) (defBody s_answers) (defScope s_answers) .none kV_answers dc_answers pm_answers an_answers cd_answers ct_answers), sl_answers⟩)
    (c_answers_ : PySem.W.codeIn K cd_answers "answers" = true)
    (k_answers : PySem.W.keepIn K (.ref f_answers) = true)
    (g_NEWLINE : PySem.W.nsIn K mainGlobals "NEWLINE" = some (some (.int (10) t_NEWLINE)))
    (g_BLANK : PySem.W.nsIn K mainGlobals "BLANK" = some (some (.int (32) t_BLANK)))
    (g_COMMA : PySem.W.nsIn K mainGlobals "COMMA" = some (some (.int (44) t_COMMA)))
    (g_HYPHEN : PySem.W.nsIn K mainGlobals "HYPHEN" = some (some (.int (45) t_HYPHEN)))
    (g_ZERO : PySem.W.nsIn K mainGlobals "ZERO" = some (some (.int (48) t_ZERO)))
    (g_COLON : PySem.W.nsIn K mainGlobals "COLON" = some (some (.int (58) t_COLON)))
    (g_BACKSLASH : PySem.W.nsIn K mainGlobals "BACKSLASH" = some (some (.int (92) t_BACKSLASH)))
    (g_FIRST_PIECE : PySem.W.nsIn K mainGlobals "FIRST_PIECE" = some (some (.int (24) t_FIRST_PIECE)))
    (g_NEXT_PIECE : PySem.W.nsIn K mainGlobals "NEXT_PIECE" = some (some (.int (23) t_NEXT_PIECE)))
    (g_MOST_NAME : PySem.W.nsIn K mainGlobals "MOST_NAME" = some (some (.int (16) t_MOST_NAME)))
    (g_LEAST_OTHER_NAME : PySem.W.nsIn K mainGlobals "LEAST_OTHER_NAME" = some (some (.int (3) t_LEAST_OTHER_NAME)))
    (g_MOST_DATES : PySem.W.nsIn K mainGlobals "MOST_DATES" = some (some (.int (6) t_MOST_DATES)))
    (g_MOST_RINGS : PySem.W.nsIn K mainGlobals "MOST_RINGS" = some (some (.int (3) t_MOST_RINGS)))
    (g_MOST_TAGS : PySem.W.nsIn K mainGlobals "MOST_TAGS" = some (some (.int (5) t_MOST_TAGS)))
    (g_MOST_OTHERS : PySem.W.nsIn K mainGlobals "MOST_OTHERS" = some (some (.int (3) t_MOST_OTHERS)))
    (g_MOST_NUMBER : PySem.W.nsIn K mainGlobals "MOST_NUMBER" = some (some (.int (9999) t_MOST_NUMBER)))
    (g_FIRST_YEAR : PySem.W.nsIn K mainGlobals "FIRST_YEAR" = some (some (.int (2000) t_FIRST_YEAR)))
    (g_LAST_YEAR : PySem.W.nsIn K mainGlobals "LAST_YEAR" = some (some (.int (2099) t_LAST_YEAR)))
    (g_MONTH_DAYS : PySem.W.nsIn K mainGlobals "MONTH_DAYS" = some (some (.ref a_MONTH_DAYS)))
    (l_MONTH_DAYS : K.lookup a_MONTH_DAYS = some ⟨.type "tuple", od_MONTH_DAYS, .seq #[.int (31) t_MONTH_DAYS_0, .int (28) t_MONTH_DAYS_1, .int (31) t_MONTH_DAYS_2, .int (30) t_MONTH_DAYS_3, .int (31) t_MONTH_DAYS_4, .int (30) t_MONTH_DAYS_5, .int (31) t_MONTH_DAYS_6, .int (31) t_MONTH_DAYS_7, .int (30) t_MONTH_DAYS_8, .int (31) t_MONTH_DAYS_9, .int (30) t_MONTH_DAYS_10, .int (31) t_MONTH_DAYS_11] n_MONTH_DAYS, sl_MONTH_DAYS⟩)
    (g_DAY_MINUTES : PySem.W.nsIn K mainGlobals "DAY_MINUTES" = some (some (.int (1440) t_DAY_MINUTES)))
    (g_TIME_FORM : PySem.W.nsIn K mainGlobals "TIME_FORM" = some (some (.str "0000-00-00 00:00" t_TIME_FORM)))
    (g_MOST_NAME_BYTES : PySem.W.nsIn K mainGlobals "MOST_NAME_BYTES" = some (some (.int (40) t_MOST_NAME_BYTES)))
    (g_MOST_DIGITS : PySem.W.nsIn K mainGlobals "MOST_DIGITS" = some (some (.int (4) t_MOST_DIGITS)))
    (g_MOST_TAG_LETTERS : PySem.W.nsIn K mainGlobals "MOST_TAG_LETTERS" = some (some (.int (8) t_MOST_TAG_LETTERS)))
    (g_OTHERWISE : PySem.W.nsIn K mainGlobals "OTHERWISE" = some (some (.ref a_OTHERWISE)))
    (l_OTHERWISE : K.lookup a_OTHERWISE = some ⟨.type "dict", none, .dict (List.toArray [⟨hashInt (10), .int (10) t_OTHERWISE_0, .int (110) u_OTHERWISE_0⟩, ⟨hashInt (92), .int (92) t_OTHERWISE_1, .int (92) u_OTHERWISE_1⟩, ⟨hashInt (44), .int (44) t_OTHERWISE_2, .int (44) u_OTHERWISE_2⟩, ⟨hashInt (59), .int (59) t_OTHERWISE_3, .int (59) u_OTHERWISE_3⟩]) n_OTHERWISE, #[]⟩)
    (lo_OTHERWISE : (a_OTHERWISE == sysModules) = false)
    (g_MEANT : PySem.W.nsIn K mainGlobals "MEANT" = some (some (.ref a_MEANT)))
    (l_MEANT : K.lookup a_MEANT = some ⟨.type "dict", none, .dict (List.toArray [⟨hashInt (110), .int (110) t_MEANT_0, .int (10) u_MEANT_0⟩, ⟨hashInt (92), .int (92) t_MEANT_1, .int (92) u_MEANT_1⟩, ⟨hashInt (44), .int (44) t_MEANT_2, .int (44) u_MEANT_2⟩, ⟨hashInt (59), .int (59) t_MEANT_3, .int (59) u_MEANT_3⟩]) n_MEANT, #[]⟩)
    (lo_MEANT : (a_MEANT == sysModules) = false)
    (g_RIGHT : PySem.W.nsIn K mainGlobals "RIGHT" = some (some (.int (0) t_RIGHT)))
    (g_NO_LINE : PySem.W.nsIn K mainGlobals "NO_LINE" = some (some (.int (1) t_NO_LINE)))
    (g_MISPLACED : PySem.W.nsIn K mainGlobals "MISPLACED" = some (some (.int (2) t_MISPLACED)))
    (g_WRONG_VALUE : PySem.W.nsIn K mainGlobals "WRONG_VALUE" = some (some (.int (3) t_WRONG_VALUE)))
    (g_TOO_MANY : PySem.W.nsIn K mainGlobals "TOO_MANY" = some (some (.int (4) t_TOO_MANY)))
    (g_UNFINISHED : PySem.W.nsIn K mainGlobals "UNFINISHED" = some (some (.int (5) t_UNFINISHED)))
    (g_UNKNOWN : PySem.W.nsIn K mainGlobals "UNKNOWN" = some (some (.int (6) t_UNKNOWN)))
    (g_WRONG : PySem.W.nsIn K mainGlobals "WRONG" = some (some (.int (-1) t_WRONG)))
    (g_NO_DATE : PySem.W.nsIn K mainGlobals "NO_DATE" = some (some (.int (-3) t_NO_DATE)))
    (g_FULL : PySem.W.nsIn K mainGlobals "FULL" = some (some (.int (-5) t_FULL)))
    (g_MOST_VALUE_BYTES : PySem.W.nsIn K mainGlobals "MOST_VALUE_BYTES" = some (some (.int (60) t_MOST_VALUE_BYTES)))
    (g_LOAD : PySem.W.nsIn K mainGlobals "LOAD" = some (some (.int (0) t_LOAD)))
    (g_TOLD : PySem.W.nsIn K mainGlobals "TOLD" = some (some (.int (1) t_TOLD)))
    (g_ADD : PySem.W.nsIn K mainGlobals "ADD" = some (some (.int (2) t_ADD)))
    (g_NAME : PySem.W.nsIn K mainGlobals "NAME" = some (some (.int (3) t_NAME)))
    (g_LONG : PySem.W.nsIn K mainGlobals "LONG" = some (some (.int (4) t_LONG)))
    (g_RING : PySem.W.nsIn K mainGlobals "RING" = some (some (.int (5) t_RING)))
    (g_TAG : PySem.W.nsIn K mainGlobals "TAG" = some (some (.int (6) t_TAG)))
    (g_OTHER : PySem.W.nsIn K mainGlobals "OTHER" = some (some (.int (7) t_OTHER)))
    (g_DROP : PySem.W.nsIn K mainGlobals "DROP" = some (some (.int (8) t_DROP)))
    (g_DATE : PySem.W.nsIn K mainGlobals "DATE" = some (some (.int (9) t_DATE)))
    (g_FIND : PySem.W.nsIn K mainGlobals "FIND" = some (some (.int (10) t_FIND)))
    (g_SAME : PySem.W.nsIn K mainGlobals "SAME" = some (some (.int (11) t_SAME)))
    (g_CUT : PySem.W.nsIn K mainGlobals "CUT" = some (some (.int (12) t_CUT)))
    (g_JOIN : PySem.W.nsIn K mainGlobals "JOIN" = some (some (.int (13) t_JOIN)))
    (g_SHAPES : PySem.W.nsIn K mainGlobals "SHAPES" = some (some (.ref a_SHAPES)))
    (l_SHAPES : K.lookup a_SHAPES = some ⟨.type "tuple", od_SHAPES, .seq #[.ref a_SHAPES_0, .ref a_SHAPES_1, .ref a_SHAPES_2, .ref a_SHAPES_3, .ref a_SHAPES_4, .ref a_SHAPES_5, .ref a_SHAPES_6, .ref a_SHAPES_7, .ref a_SHAPES_8, .ref a_SHAPES_9, .ref a_SHAPES_10, .ref a_SHAPES_11, .ref a_SHAPES_12, .ref a_SHAPES_13, .ref a_SHAPES_14] n_SHAPES, sl_SHAPES⟩)
    (l_SHAPES_0 : K.lookup a_SHAPES_0 = some ⟨.type "tuple", od_SHAPES_0, .seq #[.int (0) t_SHAPES_0_0, .int (1) t_SHAPES_0_1] n_SHAPES_0, sl_SHAPES_0⟩)
    (l_SHAPES_1 : K.lookup a_SHAPES_1 = some ⟨.type "tuple", od_SHAPES_1, .seq #[.int (0) t_SHAPES_1_0, .int (0) t_SHAPES_1_1] n_SHAPES_1, sl_SHAPES_1⟩)
    (l_SHAPES_2 : K.lookup a_SHAPES_2 = some ⟨.type "tuple", od_SHAPES_2, .seq #[.int (4) t_SHAPES_2_0, .int (0) t_SHAPES_2_1] n_SHAPES_2, sl_SHAPES_2⟩)
    (l_SHAPES_3 : K.lookup a_SHAPES_3 = some ⟨.type "tuple", od_SHAPES_3, .seq #[.int (1) t_SHAPES_3_0, .int (1) t_SHAPES_3_1] n_SHAPES_3, sl_SHAPES_3⟩)
    (l_SHAPES_4 : K.lookup a_SHAPES_4 = some ⟨.type "tuple", od_SHAPES_4, .seq #[.int (2) t_SHAPES_4_0, .int (0) t_SHAPES_4_1] n_SHAPES_4, sl_SHAPES_4⟩)
    (l_SHAPES_5 : K.lookup a_SHAPES_5 = some ⟨.type "tuple", od_SHAPES_5, .seq #[.int (2) t_SHAPES_5_0, .int (0) t_SHAPES_5_1] n_SHAPES_5, sl_SHAPES_5⟩)
    (l_SHAPES_6 : K.lookup a_SHAPES_6 = some ⟨.type "tuple", od_SHAPES_6, .seq #[.int (1) t_SHAPES_6_0, .int (1) t_SHAPES_6_1] n_SHAPES_6, sl_SHAPES_6⟩)
    (l_SHAPES_7 : K.lookup a_SHAPES_7 = some ⟨.type "tuple", od_SHAPES_7, .seq #[.int (1) t_SHAPES_7_0, .int (2) t_SHAPES_7_1] n_SHAPES_7, sl_SHAPES_7⟩)
    (l_SHAPES_8 : K.lookup a_SHAPES_8 = some ⟨.type "tuple", od_SHAPES_8, .seq #[.int (1) t_SHAPES_8_0, .int (0) t_SHAPES_8_1] n_SHAPES_8, sl_SHAPES_8⟩)
    (l_SHAPES_9 : K.lookup a_SHAPES_9 = some ⟨.type "tuple", od_SHAPES_9, .seq #[.int (1) t_SHAPES_9_0, .int (0) t_SHAPES_9_1] n_SHAPES_9, sl_SHAPES_9⟩)
    (l_SHAPES_10 : K.lookup a_SHAPES_10 = some ⟨.type "tuple", od_SHAPES_10, .seq #[.int (0) t_SHAPES_10_0, .int (1) t_SHAPES_10_1] n_SHAPES_10, sl_SHAPES_10⟩)
    (l_SHAPES_11 : K.lookup a_SHAPES_11 = some ⟨.type "tuple", od_SHAPES_11, .seq #[.int (0) t_SHAPES_11_0, .int (1) t_SHAPES_11_1] n_SHAPES_11, sl_SHAPES_11⟩)
    (l_SHAPES_12 : K.lookup a_SHAPES_12 = some ⟨.type "tuple", od_SHAPES_12, .seq #[.int (0) t_SHAPES_12_0, .int (1) t_SHAPES_12_1] n_SHAPES_12, sl_SHAPES_12⟩)
    (l_SHAPES_13 : K.lookup a_SHAPES_13 = some ⟨.type "tuple", od_SHAPES_13, .seq #[.int (0) t_SHAPES_13_0, .int (1) t_SHAPES_13_1] n_SHAPES_13, sl_SHAPES_13⟩)
    (l_SHAPES_14 : K.lookup a_SHAPES_14 = some ⟨.type "tuple", od_SHAPES_14, .seq #[.int (0) t_SHAPES_14_0, .int (1) t_SHAPES_14_1] n_SHAPES_14, sl_SHAPES_14⟩)
    (z_len : PySem.W.nsIn K mainGlobals "len" = some none)
    (z_ord : PySem.W.nsIn K mainGlobals "ord" = some none)
    (z_str : PySem.W.nsIn K mainGlobals "str" = some none)
    (z_list : PySem.W.nsIn K mainGlobals "list" = some none)
    (z_all : PySem.W.nsIn K mainGlobals "all" = some none)
    (z_sum : PySem.W.nsIn K mainGlobals "sum" = some none)
    (z_sorted : PySem.W.nsIn K mainGlobals "sorted" = some none)
    (z_range : PySem.W.nsIn K mainGlobals "range" = some none)
    (z_enumerate : PySem.W.nsIn K mainGlobals "enumerate" = some none)
    (z_zip : PySem.W.nsIn K mainGlobals "zip" = some none)
    : ∃ A : Ad, Txt K mg A ∧ A.f_answers = fa ∧ ∃ (oc : Value) (od an : Option Addr) (sl : Array (Option Value)) (kV dc pm cd ct : Value), A.d_answers = PySem.W.fnOf "answers" "answers" (defArgs s_answers) (defBody s_answers) (defScope s_answers) .none kV dc pm an cd ct := by
  have e : f_answers = fa := by
    have z := (PySem.W.mg_of X G a_answers).symm.trans hfa
    injection z with z
    injection z
  have F_row_of := fun_mk (st := s_row_of) l_row_of c_row_of_ k_row_of
  have F_counted := fun_mk (st := s_counted) l_counted c_counted_ k_counted
  have F_split_row := fun_mk (st := s_split_row) l_split_row c_split_row_ k_split_row
  have F_is_small_letter := fun_mk (st := s_is_small_letter) l_is_small_letter c_is_small_letter_ k_is_small_letter
  have F_is_digit := fun_mk (st := s_is_digit) l_is_digit c_is_digit_ k_is_digit
  have F_number_of := fun_mk (st := s_number_of) l_number_of c_number_of_ k_number_of
  have F_put_together := fun_mk (st := s_put_together) l_put_together c_put_together_ k_put_together
  have F_is_ended := fun_mk (st := s_is_ended) l_is_ended c_is_ended_ k_is_ended
  have F_lines_of := fun_mk (st := s_lines_of) l_lines_of c_lines_of_ k_lines_of
  have F_cut_line := fun_mk (st := s_cut_line) l_cut_line c_cut_line_ k_cut_line
  have F_may_stand_in_line_name := fun_mk (st := s_may_stand_in_line_name) l_may_stand_in_line_name c_may_stand_in_line_name_ k_may_stand_in_line_name
  have F_name_size := fun_mk (st := s_name_size) l_name_size c_name_size_ k_name_size
  have F_is_other_name := fun_mk (st := s_is_other_name) l_is_other_name c_is_other_name_ k_is_other_name
  have F_Date_init := fun_mk (st := s_Date_init) l_Date_init c_Date_init_ k_Date_init
  have F_Calendar_init := fun_mk (st := s_Calendar_init) l_Calendar_init c_Calendar_init_ k_Calendar_init
  have F_days_of_year := fun_mk (st := s_days_of_year) l_days_of_year c_days_of_year_ k_days_of_year
  have F_days_of_month := fun_mk (st := s_days_of_month) l_days_of_month c_days_of_month_ k_days_of_month
  have F_is_day := fun_mk (st := s_is_day) l_is_day c_is_day_ k_is_day
  have F_is_minute := fun_mk (st := s_is_minute) l_is_minute c_is_minute_ k_is_minute
  have F_day_number := fun_mk (st := s_day_number) l_day_number c_day_number_ k_day_number
  have F_day_parts := fun_mk (st := s_day_parts) l_day_parts c_day_parts_ k_day_parts
  have F_two_digits := fun_mk (st := s_two_digits) l_two_digits c_two_digits_ k_two_digits
  have F_tell_time := fun_mk (st := s_tell_time) l_tell_time c_tell_time_ k_tell_time
  have F_has_time_form := fun_mk (st := s_has_time_form) l_has_time_form c_has_time_form_ k_has_time_form
  have F_read_time := fun_mk (st := s_read_time) l_read_time c_read_time_ k_read_time
  have F_may_stand_in_name := fun_mk (st := s_may_stand_in_name) l_may_stand_in_name c_may_stand_in_name_ k_may_stand_in_name
  have F_is_name := fun_mk (st := s_is_name) l_is_name c_is_name_ k_is_name
  have F_tell_name := fun_mk (st := s_tell_name) l_tell_name c_tell_name_ k_tell_name
  have F_read_name := fun_mk (st := s_read_name) l_read_name c_read_name_ k_read_name
  have F_read_number := fun_mk (st := s_read_number) l_read_number c_read_number_ k_read_number
  have F_is_tag := fun_mk (st := s_is_tag) l_is_tag c_is_tag_ k_is_tag
  have F_read_tags := fun_mk (st := s_read_tags) l_read_tags c_read_tags_ k_read_tags
  have F_Reading_init := fun_mk (st := s_Reading_init) l_Reading_init c_Reading_init_ k_Reading_init
  have F_told_fault := fun_mk (st := s_told_fault) l_told_fault c_told_fault_ k_told_fault
  have F_read_title := fun_mk (st := s_read_title) l_read_title c_read_title_ k_read_title
  have F_read_begin := fun_mk (st := s_read_begin) l_read_begin c_read_begin_ k_read_begin
  have F_read_end := fun_mk (st := s_read_end) l_read_end c_read_end_ k_read_end
  have F_read_date_name := fun_mk (st := s_read_date_name) l_read_date_name c_read_date_name_ k_read_date_name
  have F_read_at := fun_mk (st := s_read_at) l_read_at c_read_at_ k_read_at
  have F_read_long := fun_mk (st := s_read_long) l_read_long c_read_long_ k_read_long
  have F_read_ring := fun_mk (st := s_read_ring) l_read_ring c_read_ring_ k_read_ring
  have F_has_one_twice := fun_mk (st := s_has_one_twice) l_has_one_twice c_has_one_twice_ k_has_one_twice
  have F_read_tag := fun_mk (st := s_read_tag) l_read_tag c_read_tag_ k_read_tag
  have F_read_other := fun_mk (st := s_read_other) l_read_other c_read_other_ k_read_other
  have F_read_outside := fun_mk (st := s_read_outside) l_read_outside c_read_outside_ k_read_outside
  have F_read_within := fun_mk (st := s_read_within) l_read_within c_read_within_ k_read_within
  have F_read_line := fun_mk (st := s_read_line) l_read_line c_read_line_ k_read_line
  have F_read_lines := fun_mk (st := s_read_lines) l_read_lines c_read_lines_ k_read_lines
  have F_read := fun_mk (st := s_read) l_read c_read_ k_read
  have F_date_numbers := fun_mk (st := s_date_numbers) l_date_numbers c_date_numbers_ k_date_numbers
  have F_dates_with_tag := fun_mk (st := s_dates_with_tag) l_dates_with_tag c_dates_with_tag_ k_dates_with_tag
  have F_has_the_same := fun_mk (st := s_has_the_same) l_has_the_same c_has_the_same_ k_has_the_same
  have F_compare := fun_mk (st := s_compare) l_compare c_compare_ k_compare
  have F_cut_given := fun_mk (st := s_cut_given) l_cut_given c_cut_given_ k_cut_given
  have F_load := fun_mk (st := s_load) l_load c_load_ k_load
  have F_add_date := fun_mk (st := s_add_date) l_add_date c_add_date_ k_add_date
  have F_drop_date := fun_mk (st := s_drop_date) l_drop_date c_drop_date_ k_drop_date
  have F_set_title := fun_mk (st := s_set_title) l_set_title c_set_title_ k_set_title
  have F_set_name := fun_mk (st := s_set_name) l_set_name c_set_name_ k_set_name
  have F_set_length := fun_mk (st := s_set_length) l_set_length c_set_length_ k_set_length
  have F_switch_ring := fun_mk (st := s_switch_ring) l_switch_ring c_switch_ring_ k_switch_ring
  have F_switch_tag := fun_mk (st := s_switch_tag) l_switch_tag c_switch_tag_ k_switch_tag
  have F_add_other := fun_mk (st := s_add_other) l_add_other c_add_other_ k_add_other
  have F_line_of := fun_mk (st := s_line_of) l_line_of c_line_of_ k_line_of
  have F_tell_tags := fun_mk (st := s_tell_tags) l_tell_tags c_tell_tags_ k_tell_tags
  have F_date_lines := fun_mk (st := s_date_lines) l_date_lines c_date_lines_ k_date_lines
  have F_calendar_lines := fun_mk (st := s_calendar_lines) l_calendar_lines c_calendar_lines_ k_calendar_lines
  have F_tell := fun_mk (st := s_tell) l_tell c_tell_ k_tell
  have F_answer_about_date := fun_mk (st := s_answer_about_date) l_answer_about_date c_answer_about_date_ k_answer_about_date
  have F_answer_about_row := fun_mk (st := s_answer_about_row) l_answer_about_row c_answer_about_row_ k_answer_about_row
  have F_answer := fun_mk (st := s_answer) l_answer c_answer_ k_answer
  have F_answers := fun_mk (st := s_answers) l_answers c_answers_ k_answers
  refine ⟨{ f_row_of := f_row_of, d_row_of := PySem.W.fnOf "row_of" "row_of" (defArgs s_row_of) (defBody s_row_of) (defScope s_row_of) .none kV_row_of dc_row_of pm_row_of an_row_of cd_row_of ct_row_of, f_counted := f_counted, d_counted := PySem.W.fnOf "counted" "counted" (defArgs s_counted) (defBody s_counted) (defScope s_counted) .none kV_counted dc_counted pm_counted an_counted cd_counted ct_counted, f_split_row := f_split_row, d_split_row := PySem.W.fnOf "split_row" "split_row" (defArgs s_split_row) (defBody s_split_row) (defScope s_split_row) .none kV_split_row dc_split_row pm_split_row an_split_row cd_split_row ct_split_row, f_is_small_letter := f_is_small_letter, d_is_small_letter := PySem.W.fnOf "is_small_letter" "is_small_letter" (defArgs s_is_small_letter) (defBody s_is_small_letter) (defScope s_is_small_letter) .none kV_is_small_letter dc_is_small_letter pm_is_small_letter an_is_small_letter cd_is_small_letter ct_is_small_letter, f_is_digit := f_is_digit, d_is_digit := PySem.W.fnOf "is_digit" "is_digit" (defArgs s_is_digit) (defBody s_is_digit) (defScope s_is_digit) .none kV_is_digit dc_is_digit pm_is_digit an_is_digit cd_is_digit ct_is_digit, f_number_of := f_number_of, d_number_of := PySem.W.fnOf "number_of" "number_of" (defArgs s_number_of) (defBody s_number_of) (defScope s_number_of) .none kV_number_of dc_number_of pm_number_of an_number_of cd_number_of ct_number_of, f_put_together := f_put_together, d_put_together := PySem.W.fnOf "put_together" "put_together" (defArgs s_put_together) (defBody s_put_together) (defScope s_put_together) .none kV_put_together dc_put_together pm_put_together an_put_together cd_put_together ct_put_together, f_is_ended := f_is_ended, d_is_ended := PySem.W.fnOf "is_ended" "is_ended" (defArgs s_is_ended) (defBody s_is_ended) (defScope s_is_ended) .none kV_is_ended dc_is_ended pm_is_ended an_is_ended cd_is_ended ct_is_ended, f_lines_of := f_lines_of, d_lines_of := PySem.W.fnOf "lines_of" "lines_of" (defArgs s_lines_of) (defBody s_lines_of) (defScope s_lines_of) .none kV_lines_of dc_lines_of pm_lines_of an_lines_of cd_lines_of ct_lines_of, f_cut_line := f_cut_line, d_cut_line := PySem.W.fnOf "cut_line" "cut_line" (defArgs s_cut_line) (defBody s_cut_line) (defScope s_cut_line) .none kV_cut_line dc_cut_line pm_cut_line an_cut_line cd_cut_line ct_cut_line, f_may_stand_in_line_name := f_may_stand_in_line_name, d_may_stand_in_line_name := PySem.W.fnOf "may_stand_in_line_name" "may_stand_in_line_name" (defArgs s_may_stand_in_line_name) (defBody s_may_stand_in_line_name) (defScope s_may_stand_in_line_name) .none kV_may_stand_in_line_name dc_may_stand_in_line_name pm_may_stand_in_line_name an_may_stand_in_line_name cd_may_stand_in_line_name ct_may_stand_in_line_name, f_name_size := f_name_size, d_name_size := PySem.W.fnOf "name_size" "name_size" (defArgs s_name_size) (defBody s_name_size) (defScope s_name_size) .none kV_name_size dc_name_size pm_name_size an_name_size cd_name_size ct_name_size, f_is_other_name := f_is_other_name, d_is_other_name := PySem.W.fnOf "is_other_name" "is_other_name" (defArgs s_is_other_name) (defBody s_is_other_name) (defScope s_is_other_name) .none kV_is_other_name dc_is_other_name pm_is_other_name an_is_other_name cd_is_other_name ct_is_other_name, f_Date_init := f_Date_init, d_Date_init := PySem.W.fnOf "__init__" "Date.__init__" (defArgs s_Date_init) (defBody s_Date_init) (defScope s_Date_init) .none kV_Date_init dc_Date_init pm_Date_init an_Date_init cd_Date_init ct_Date_init, f_Calendar_init := f_Calendar_init, d_Calendar_init := PySem.W.fnOf "__init__" "Calendar.__init__" (defArgs s_Calendar_init) (defBody s_Calendar_init) (defScope s_Calendar_init) .none kV_Calendar_init dc_Calendar_init pm_Calendar_init an_Calendar_init cd_Calendar_init ct_Calendar_init, f_days_of_year := f_days_of_year, d_days_of_year := PySem.W.fnOf "days_of_year" "days_of_year" (defArgs s_days_of_year) (defBody s_days_of_year) (defScope s_days_of_year) .none kV_days_of_year dc_days_of_year pm_days_of_year an_days_of_year cd_days_of_year ct_days_of_year, f_days_of_month := f_days_of_month, d_days_of_month := PySem.W.fnOf "days_of_month" "days_of_month" (defArgs s_days_of_month) (defBody s_days_of_month) (defScope s_days_of_month) .none kV_days_of_month dc_days_of_month pm_days_of_month an_days_of_month cd_days_of_month ct_days_of_month, f_is_day := f_is_day, d_is_day := PySem.W.fnOf "is_day" "is_day" (defArgs s_is_day) (defBody s_is_day) (defScope s_is_day) .none kV_is_day dc_is_day pm_is_day an_is_day cd_is_day ct_is_day, f_is_minute := f_is_minute, d_is_minute := PySem.W.fnOf "is_minute" "is_minute" (defArgs s_is_minute) (defBody s_is_minute) (defScope s_is_minute) .none kV_is_minute dc_is_minute pm_is_minute an_is_minute cd_is_minute ct_is_minute, f_day_number := f_day_number, d_day_number := PySem.W.fnOf "day_number" "day_number" (defArgs s_day_number) (defBody s_day_number) (defScope s_day_number) .none kV_day_number dc_day_number pm_day_number an_day_number cd_day_number ct_day_number, f_day_parts := f_day_parts, d_day_parts := PySem.W.fnOf "day_parts" "day_parts" (defArgs s_day_parts) (defBody s_day_parts) (defScope s_day_parts) .none kV_day_parts dc_day_parts pm_day_parts an_day_parts cd_day_parts ct_day_parts, f_two_digits := f_two_digits, d_two_digits := PySem.W.fnOf "two_digits" "two_digits" (defArgs s_two_digits) (defBody s_two_digits) (defScope s_two_digits) .none kV_two_digits dc_two_digits pm_two_digits an_two_digits cd_two_digits ct_two_digits, f_tell_time := f_tell_time, d_tell_time := PySem.W.fnOf "tell_time" "tell_time" (defArgs s_tell_time) (defBody s_tell_time) (defScope s_tell_time) .none kV_tell_time dc_tell_time pm_tell_time an_tell_time cd_tell_time ct_tell_time, f_has_time_form := f_has_time_form, d_has_time_form := PySem.W.fnOf "has_time_form" "has_time_form" (defArgs s_has_time_form) (defBody s_has_time_form) (defScope s_has_time_form) .none kV_has_time_form dc_has_time_form pm_has_time_form an_has_time_form cd_has_time_form ct_has_time_form, f_read_time := f_read_time, d_read_time := PySem.W.fnOf "read_time" "read_time" (defArgs s_read_time) (defBody s_read_time) (defScope s_read_time) .none kV_read_time dc_read_time pm_read_time an_read_time cd_read_time ct_read_time, f_may_stand_in_name := f_may_stand_in_name, d_may_stand_in_name := PySem.W.fnOf "may_stand_in_name" "may_stand_in_name" (defArgs s_may_stand_in_name) (defBody s_may_stand_in_name) (defScope s_may_stand_in_name) .none kV_may_stand_in_name dc_may_stand_in_name pm_may_stand_in_name an_may_stand_in_name cd_may_stand_in_name ct_may_stand_in_name, f_is_name := f_is_name, d_is_name := PySem.W.fnOf "is_name" "is_name" (defArgs s_is_name) (defBody s_is_name) (defScope s_is_name) .none kV_is_name dc_is_name pm_is_name an_is_name cd_is_name ct_is_name, f_tell_name := f_tell_name, d_tell_name := PySem.W.fnOf "tell_name" "tell_name" (defArgs s_tell_name) (defBody s_tell_name) (defScope s_tell_name) .none kV_tell_name dc_tell_name pm_tell_name an_tell_name cd_tell_name ct_tell_name, f_read_name := f_read_name, d_read_name := PySem.W.fnOf "read_name" "read_name" (defArgs s_read_name) (defBody s_read_name) (defScope s_read_name) .none kV_read_name dc_read_name pm_read_name an_read_name cd_read_name ct_read_name, f_read_number := f_read_number, d_read_number := PySem.W.fnOf "read_number" "read_number" (defArgs s_read_number) (defBody s_read_number) (defScope s_read_number) .none kV_read_number dc_read_number pm_read_number an_read_number cd_read_number ct_read_number, f_is_tag := f_is_tag, d_is_tag := PySem.W.fnOf "is_tag" "is_tag" (defArgs s_is_tag) (defBody s_is_tag) (defScope s_is_tag) .none kV_is_tag dc_is_tag pm_is_tag an_is_tag cd_is_tag ct_is_tag, f_read_tags := f_read_tags, d_read_tags := PySem.W.fnOf "read_tags" "read_tags" (defArgs s_read_tags) (defBody s_read_tags) (defScope s_read_tags) .none kV_read_tags dc_read_tags pm_read_tags an_read_tags cd_read_tags ct_read_tags, f_Reading_init := f_Reading_init, d_Reading_init := PySem.W.fnOf "__init__" "Reading.__init__" (defArgs s_Reading_init) (defBody s_Reading_init) (defScope s_Reading_init) .none kV_Reading_init dc_Reading_init pm_Reading_init an_Reading_init cd_Reading_init ct_Reading_init, f_told_fault := f_told_fault, d_told_fault := PySem.W.fnOf "told_fault" "told_fault" (defArgs s_told_fault) (defBody s_told_fault) (defScope s_told_fault) .none kV_told_fault dc_told_fault pm_told_fault an_told_fault cd_told_fault ct_told_fault, f_read_title := f_read_title, d_read_title := PySem.W.fnOf "read_title" "read_title" (defArgs s_read_title) (defBody s_read_title) (defScope s_read_title) .none kV_read_title dc_read_title pm_read_title an_read_title cd_read_title ct_read_title, f_read_begin := f_read_begin, d_read_begin := PySem.W.fnOf "read_begin" "read_begin" (defArgs s_read_begin) (defBody s_read_begin) (defScope s_read_begin) .none kV_read_begin dc_read_begin pm_read_begin an_read_begin cd_read_begin ct_read_begin, f_read_end := f_read_end, d_read_end := PySem.W.fnOf "read_end" "read_end" (defArgs s_read_end) (defBody s_read_end) (defScope s_read_end) .none kV_read_end dc_read_end pm_read_end an_read_end cd_read_end ct_read_end, f_read_date_name := f_read_date_name, d_read_date_name := PySem.W.fnOf "read_date_name" "read_date_name" (defArgs s_read_date_name) (defBody s_read_date_name) (defScope s_read_date_name) .none kV_read_date_name dc_read_date_name pm_read_date_name an_read_date_name cd_read_date_name ct_read_date_name, f_read_at := f_read_at, d_read_at := PySem.W.fnOf "read_at" "read_at" (defArgs s_read_at) (defBody s_read_at) (defScope s_read_at) .none kV_read_at dc_read_at pm_read_at an_read_at cd_read_at ct_read_at, f_read_long := f_read_long, d_read_long := PySem.W.fnOf "read_long" "read_long" (defArgs s_read_long) (defBody s_read_long) (defScope s_read_long) .none kV_read_long dc_read_long pm_read_long an_read_long cd_read_long ct_read_long, f_read_ring := f_read_ring, d_read_ring := PySem.W.fnOf "read_ring" "read_ring" (defArgs s_read_ring) (defBody s_read_ring) (defScope s_read_ring) .none kV_read_ring dc_read_ring pm_read_ring an_read_ring cd_read_ring ct_read_ring, f_has_one_twice := f_has_one_twice, d_has_one_twice := PySem.W.fnOf "has_one_twice" "has_one_twice" (defArgs s_has_one_twice) (defBody s_has_one_twice) (defScope s_has_one_twice) .none kV_has_one_twice dc_has_one_twice pm_has_one_twice an_has_one_twice cd_has_one_twice ct_has_one_twice, f_read_tag := f_read_tag, d_read_tag := PySem.W.fnOf "read_tag" "read_tag" (defArgs s_read_tag) (defBody s_read_tag) (defScope s_read_tag) .none kV_read_tag dc_read_tag pm_read_tag an_read_tag cd_read_tag ct_read_tag, f_read_other := f_read_other, d_read_other := PySem.W.fnOf "read_other" "read_other" (defArgs s_read_other) (defBody s_read_other) (defScope s_read_other) .none kV_read_other dc_read_other pm_read_other an_read_other cd_read_other ct_read_other, f_read_outside := f_read_outside, d_read_outside := PySem.W.fnOf "read_outside" "read_outside" (defArgs s_read_outside) (defBody s_read_outside) (defScope s_read_outside) .none kV_read_outside dc_read_outside pm_read_outside an_read_outside cd_read_outside ct_read_outside, f_read_within := f_read_within, d_read_within := PySem.W.fnOf "read_within" "read_within" (defArgs s_read_within) (defBody s_read_within) (defScope s_read_within) .none kV_read_within dc_read_within pm_read_within an_read_within cd_read_within ct_read_within, f_read_line := f_read_line, d_read_line := PySem.W.fnOf "read_line" "read_line" (defArgs s_read_line) (defBody s_read_line) (defScope s_read_line) .none kV_read_line dc_read_line pm_read_line an_read_line cd_read_line ct_read_line, f_read_lines := f_read_lines, d_read_lines := PySem.W.fnOf "read_lines" "read_lines" (defArgs s_read_lines) (defBody s_read_lines) (defScope s_read_lines) .none kV_read_lines dc_read_lines pm_read_lines an_read_lines cd_read_lines ct_read_lines, f_read := f_read, d_read := PySem.W.fnOf "read" "read" (defArgs s_read) (defBody s_read) (defScope s_read) .none kV_read dc_read pm_read an_read cd_read ct_read, f_date_numbers := f_date_numbers, d_date_numbers := PySem.W.fnOf "date_numbers" "date_numbers" (defArgs s_date_numbers) (defBody s_date_numbers) (defScope s_date_numbers) .none kV_date_numbers dc_date_numbers pm_date_numbers an_date_numbers cd_date_numbers ct_date_numbers, f_dates_with_tag := f_dates_with_tag, d_dates_with_tag := PySem.W.fnOf "dates_with_tag" "dates_with_tag" (defArgs s_dates_with_tag) (defBody s_dates_with_tag) (defScope s_dates_with_tag) .none kV_dates_with_tag dc_dates_with_tag pm_dates_with_tag an_dates_with_tag cd_dates_with_tag ct_dates_with_tag, f_has_the_same := f_has_the_same, d_has_the_same := PySem.W.fnOf "has_the_same" "has_the_same" (defArgs s_has_the_same) (defBody s_has_the_same) (defScope s_has_the_same) .none kV_has_the_same dc_has_the_same pm_has_the_same an_has_the_same cd_has_the_same ct_has_the_same, f_compare := f_compare, d_compare := PySem.W.fnOf "compare" "compare" (defArgs s_compare) (defBody s_compare) (defScope s_compare) .none kV_compare dc_compare pm_compare an_compare cd_compare ct_compare, f_cut_given := f_cut_given, d_cut_given := PySem.W.fnOf "cut_given" "cut_given" (defArgs s_cut_given) (defBody s_cut_given) (defScope s_cut_given) .none kV_cut_given dc_cut_given pm_cut_given an_cut_given cd_cut_given ct_cut_given, f_load := f_load, d_load := PySem.W.fnOf "load" "load" (defArgs s_load) (defBody s_load) (defScope s_load) .none kV_load dc_load pm_load an_load cd_load ct_load, f_add_date := f_add_date, d_add_date := PySem.W.fnOf "add_date" "add_date" (defArgs s_add_date) (defBody s_add_date) (defScope s_add_date) .none kV_add_date dc_add_date pm_add_date an_add_date cd_add_date ct_add_date, f_drop_date := f_drop_date, d_drop_date := PySem.W.fnOf "drop_date" "drop_date" (defArgs s_drop_date) (defBody s_drop_date) (defScope s_drop_date) .none kV_drop_date dc_drop_date pm_drop_date an_drop_date cd_drop_date ct_drop_date, f_set_title := f_set_title, d_set_title := PySem.W.fnOf "set_title" "set_title" (defArgs s_set_title) (defBody s_set_title) (defScope s_set_title) .none kV_set_title dc_set_title pm_set_title an_set_title cd_set_title ct_set_title, f_set_name := f_set_name, d_set_name := PySem.W.fnOf "set_name" "set_name" (defArgs s_set_name) (defBody s_set_name) (defScope s_set_name) .none kV_set_name dc_set_name pm_set_name an_set_name cd_set_name ct_set_name, f_set_length := f_set_length, d_set_length := PySem.W.fnOf "set_length" "set_length" (defArgs s_set_length) (defBody s_set_length) (defScope s_set_length) .none kV_set_length dc_set_length pm_set_length an_set_length cd_set_length ct_set_length, f_switch_ring := f_switch_ring, d_switch_ring := PySem.W.fnOf "switch_ring" "switch_ring" (defArgs s_switch_ring) (defBody s_switch_ring) (defScope s_switch_ring) .none kV_switch_ring dc_switch_ring pm_switch_ring an_switch_ring cd_switch_ring ct_switch_ring, f_switch_tag := f_switch_tag, d_switch_tag := PySem.W.fnOf "switch_tag" "switch_tag" (defArgs s_switch_tag) (defBody s_switch_tag) (defScope s_switch_tag) .none kV_switch_tag dc_switch_tag pm_switch_tag an_switch_tag cd_switch_tag ct_switch_tag, f_add_other := f_add_other, d_add_other := PySem.W.fnOf "add_other" "add_other" (defArgs s_add_other) (defBody s_add_other) (defScope s_add_other) .none kV_add_other dc_add_other pm_add_other an_add_other cd_add_other ct_add_other, f_line_of := f_line_of, d_line_of := PySem.W.fnOf "line_of" "line_of" (defArgs s_line_of) (defBody s_line_of) (defScope s_line_of) .none kV_line_of dc_line_of pm_line_of an_line_of cd_line_of ct_line_of, f_tell_tags := f_tell_tags, d_tell_tags := PySem.W.fnOf "tell_tags" "tell_tags" (defArgs s_tell_tags) (defBody s_tell_tags) (defScope s_tell_tags) .none kV_tell_tags dc_tell_tags pm_tell_tags an_tell_tags cd_tell_tags ct_tell_tags, f_date_lines := f_date_lines, d_date_lines := PySem.W.fnOf "date_lines" "date_lines" (defArgs s_date_lines) (defBody s_date_lines) (defScope s_date_lines) .none kV_date_lines dc_date_lines pm_date_lines an_date_lines cd_date_lines ct_date_lines, f_calendar_lines := f_calendar_lines, d_calendar_lines := PySem.W.fnOf "calendar_lines" "calendar_lines" (defArgs s_calendar_lines) (defBody s_calendar_lines) (defScope s_calendar_lines) .none kV_calendar_lines dc_calendar_lines pm_calendar_lines an_calendar_lines cd_calendar_lines ct_calendar_lines, f_tell := f_tell, d_tell := PySem.W.fnOf "tell" "tell" (defArgs s_tell) (defBody s_tell) (defScope s_tell) .none kV_tell dc_tell pm_tell an_tell cd_tell ct_tell, f_answer_about_date := f_answer_about_date, d_answer_about_date := PySem.W.fnOf "answer_about_date" "answer_about_date" (defArgs s_answer_about_date) (defBody s_answer_about_date) (defScope s_answer_about_date) .none kV_answer_about_date dc_answer_about_date pm_answer_about_date an_answer_about_date cd_answer_about_date ct_answer_about_date, f_answer_about_row := f_answer_about_row, d_answer_about_row := PySem.W.fnOf "answer_about_row" "answer_about_row" (defArgs s_answer_about_row) (defBody s_answer_about_row) (defScope s_answer_about_row) .none kV_answer_about_row dc_answer_about_row pm_answer_about_row an_answer_about_row cd_answer_about_row ct_answer_about_row, f_answer := f_answer, d_answer := PySem.W.fnOf "answer" "answer" (defArgs s_answer) (defBody s_answer) (defScope s_answer) .none kV_answer dc_answer pm_answer an_answer cd_answer ct_answer, f_answers := f_answers, d_answers := PySem.W.fnOf "answers" "answers" (defArgs s_answers) (defBody s_answers) (defScope s_answers) .none kV_answers dc_answers pm_answers an_answers cd_answers ct_answers, c_Calendar := c_Calendar, c_Date := c_Date, c_Reading := c_Reading, a_MONTH_DAYS := a_MONTH_DAYS, a_OTHERWISE := a_OTHERWISE, a_MEANT := a_MEANT, a_SHAPES := a_SHAPES }, ?_, e, oc_answers, od_answers, an_answers, sl_answers, kV_answers, dc_answers, pm_answers, cd_answers, ct_answers, rfl⟩
  exact {
    F_row_of := F_row_of
    g_row_of := PySem.W.mg_of X G a_row_of
    F_counted := F_counted
    g_counted := PySem.W.mg_of X G a_counted
    F_split_row := F_split_row
    g_split_row := PySem.W.mg_of X G a_split_row
    F_is_small_letter := F_is_small_letter
    g_is_small_letter := PySem.W.mg_of X G a_is_small_letter
    F_is_digit := F_is_digit
    g_is_digit := PySem.W.mg_of X G a_is_digit
    F_number_of := F_number_of
    g_number_of := PySem.W.mg_of X G a_number_of
    F_put_together := F_put_together
    g_put_together := PySem.W.mg_of X G a_put_together
    F_is_ended := F_is_ended
    g_is_ended := PySem.W.mg_of X G a_is_ended
    F_lines_of := F_lines_of
    g_lines_of := PySem.W.mg_of X G a_lines_of
    F_cut_line := F_cut_line
    g_cut_line := PySem.W.mg_of X G a_cut_line
    F_may_stand_in_line_name := F_may_stand_in_line_name
    g_may_stand_in_line_name := PySem.W.mg_of X G a_may_stand_in_line_name
    F_name_size := F_name_size
    g_name_size := PySem.W.mg_of X G a_name_size
    F_is_other_name := F_is_other_name
    g_is_other_name := PySem.W.mg_of X G a_is_other_name
    F_Date_init := F_Date_init
    F_Calendar_init := F_Calendar_init
    F_days_of_year := F_days_of_year
    g_days_of_year := PySem.W.mg_of X G a_days_of_year
    F_days_of_month := F_days_of_month
    g_days_of_month := PySem.W.mg_of X G a_days_of_month
    F_is_day := F_is_day
    g_is_day := PySem.W.mg_of X G a_is_day
    F_is_minute := F_is_minute
    g_is_minute := PySem.W.mg_of X G a_is_minute
    F_day_number := F_day_number
    g_day_number := PySem.W.mg_of X G a_day_number
    F_day_parts := F_day_parts
    g_day_parts := PySem.W.mg_of X G a_day_parts
    F_two_digits := F_two_digits
    g_two_digits := PySem.W.mg_of X G a_two_digits
    F_tell_time := F_tell_time
    g_tell_time := PySem.W.mg_of X G a_tell_time
    F_has_time_form := F_has_time_form
    g_has_time_form := PySem.W.mg_of X G a_has_time_form
    F_read_time := F_read_time
    g_read_time := PySem.W.mg_of X G a_read_time
    F_may_stand_in_name := F_may_stand_in_name
    g_may_stand_in_name := PySem.W.mg_of X G a_may_stand_in_name
    F_is_name := F_is_name
    g_is_name := PySem.W.mg_of X G a_is_name
    F_tell_name := F_tell_name
    g_tell_name := PySem.W.mg_of X G a_tell_name
    F_read_name := F_read_name
    g_read_name := PySem.W.mg_of X G a_read_name
    F_read_number := F_read_number
    g_read_number := PySem.W.mg_of X G a_read_number
    F_is_tag := F_is_tag
    g_is_tag := PySem.W.mg_of X G a_is_tag
    F_read_tags := F_read_tags
    g_read_tags := PySem.W.mg_of X G a_read_tags
    F_Reading_init := F_Reading_init
    F_told_fault := F_told_fault
    g_told_fault := PySem.W.mg_of X G a_told_fault
    F_read_title := F_read_title
    g_read_title := PySem.W.mg_of X G a_read_title
    F_read_begin := F_read_begin
    g_read_begin := PySem.W.mg_of X G a_read_begin
    F_read_end := F_read_end
    g_read_end := PySem.W.mg_of X G a_read_end
    F_read_date_name := F_read_date_name
    g_read_date_name := PySem.W.mg_of X G a_read_date_name
    F_read_at := F_read_at
    g_read_at := PySem.W.mg_of X G a_read_at
    F_read_long := F_read_long
    g_read_long := PySem.W.mg_of X G a_read_long
    F_read_ring := F_read_ring
    g_read_ring := PySem.W.mg_of X G a_read_ring
    F_has_one_twice := F_has_one_twice
    g_has_one_twice := PySem.W.mg_of X G a_has_one_twice
    F_read_tag := F_read_tag
    g_read_tag := PySem.W.mg_of X G a_read_tag
    F_read_other := F_read_other
    g_read_other := PySem.W.mg_of X G a_read_other
    F_read_outside := F_read_outside
    g_read_outside := PySem.W.mg_of X G a_read_outside
    F_read_within := F_read_within
    g_read_within := PySem.W.mg_of X G a_read_within
    F_read_line := F_read_line
    g_read_line := PySem.W.mg_of X G a_read_line
    F_read_lines := F_read_lines
    g_read_lines := PySem.W.mg_of X G a_read_lines
    F_read := F_read
    g_read := PySem.W.mg_of X G a_read
    F_date_numbers := F_date_numbers
    g_date_numbers := PySem.W.mg_of X G a_date_numbers
    F_dates_with_tag := F_dates_with_tag
    g_dates_with_tag := PySem.W.mg_of X G a_dates_with_tag
    F_has_the_same := F_has_the_same
    g_has_the_same := PySem.W.mg_of X G a_has_the_same
    F_compare := F_compare
    g_compare := PySem.W.mg_of X G a_compare
    F_cut_given := F_cut_given
    g_cut_given := PySem.W.mg_of X G a_cut_given
    F_load := F_load
    g_load := PySem.W.mg_of X G a_load
    F_add_date := F_add_date
    g_add_date := PySem.W.mg_of X G a_add_date
    F_drop_date := F_drop_date
    g_drop_date := PySem.W.mg_of X G a_drop_date
    F_set_title := F_set_title
    g_set_title := PySem.W.mg_of X G a_set_title
    F_set_name := F_set_name
    g_set_name := PySem.W.mg_of X G a_set_name
    F_set_length := F_set_length
    g_set_length := PySem.W.mg_of X G a_set_length
    F_switch_ring := F_switch_ring
    g_switch_ring := PySem.W.mg_of X G a_switch_ring
    F_switch_tag := F_switch_tag
    g_switch_tag := PySem.W.mg_of X G a_switch_tag
    F_add_other := F_add_other
    g_add_other := PySem.W.mg_of X G a_add_other
    F_line_of := F_line_of
    g_line_of := PySem.W.mg_of X G a_line_of
    F_tell_tags := F_tell_tags
    g_tell_tags := PySem.W.mg_of X G a_tell_tags
    F_date_lines := F_date_lines
    g_date_lines := PySem.W.mg_of X G a_date_lines
    F_calendar_lines := F_calendar_lines
    g_calendar_lines := PySem.W.mg_of X G a_calendar_lines
    F_tell := F_tell
    g_tell := PySem.W.mg_of X G a_tell
    F_answer_about_date := F_answer_about_date
    g_answer_about_date := PySem.W.mg_of X G a_answer_about_date
    F_answer_about_row := F_answer_about_row
    g_answer_about_row := PySem.W.mg_of X G a_answer_about_row
    F_answer := F_answer
    g_answer := PySem.W.mg_of X G a_answer
    F_answers := F_answers
    g_answers := PySem.W.mg_of X G a_answers
    M_Calendar := ⟨mk_Calendar, a_Calendar_init, i_Calendar_init, kc_Calendar⟩
    C_Calendar := ⟨pg_Calendar, hd_Calendar, po_Calendar, sa_Calendar⟩
    g_Calendar := PySem.W.mg_of X G aC_Calendar
    n_Calendar_title := n_Calendar_title
    n_Calendar_dates := n_Calendar_dates
    M_Date := ⟨mk_Date, a_Date_init, i_Date_init, kc_Date⟩
    C_Date := ⟨pg_Date, hd_Date, po_Date, sa_Date⟩
    g_Date := PySem.W.mg_of X G aC_Date
    n_Date_day := n_Date_day
    n_Date_minute := n_Date_minute
    n_Date_length := n_Date_length
    n_Date_name := n_Date_name
    n_Date_rings := n_Date_rings
    n_Date_tags := n_Date_tags
    n_Date_others := n_Date_others
    M_Reading := ⟨mk_Reading, a_Reading_init, i_Reading_init, kc_Reading⟩
    C_Reading := ⟨pg_Reading, hd_Reading, po_Reading, sa_Reading⟩
    g_Reading := PySem.W.mg_of X G aC_Reading
    n_Reading_calendar := n_Reading_calendar
    n_Reading_within_date := n_Reading_within_date
    n_Reading_fault := n_Reading_fault
    g_NEWLINE := ⟨_, PySem.W.mg_of X G g_NEWLINE⟩
    g_BLANK := ⟨_, PySem.W.mg_of X G g_BLANK⟩
    g_COMMA := ⟨_, PySem.W.mg_of X G g_COMMA⟩
    g_HYPHEN := ⟨_, PySem.W.mg_of X G g_HYPHEN⟩
    g_ZERO := ⟨_, PySem.W.mg_of X G g_ZERO⟩
    g_COLON := ⟨_, PySem.W.mg_of X G g_COLON⟩
    g_BACKSLASH := ⟨_, PySem.W.mg_of X G g_BACKSLASH⟩
    g_FIRST_PIECE := ⟨_, PySem.W.mg_of X G g_FIRST_PIECE⟩
    g_NEXT_PIECE := ⟨_, PySem.W.mg_of X G g_NEXT_PIECE⟩
    g_MOST_NAME := ⟨_, PySem.W.mg_of X G g_MOST_NAME⟩
    g_LEAST_OTHER_NAME := ⟨_, PySem.W.mg_of X G g_LEAST_OTHER_NAME⟩
    g_MOST_DATES := ⟨_, PySem.W.mg_of X G g_MOST_DATES⟩
    g_MOST_RINGS := ⟨_, PySem.W.mg_of X G g_MOST_RINGS⟩
    g_MOST_TAGS := ⟨_, PySem.W.mg_of X G g_MOST_TAGS⟩
    g_MOST_OTHERS := ⟨_, PySem.W.mg_of X G g_MOST_OTHERS⟩
    g_MOST_NUMBER := ⟨_, PySem.W.mg_of X G g_MOST_NUMBER⟩
    g_FIRST_YEAR := ⟨_, PySem.W.mg_of X G g_FIRST_YEAR⟩
    g_LAST_YEAR := ⟨_, PySem.W.mg_of X G g_LAST_YEAR⟩
    g_MONTH_DAYS := PySem.W.mg_of X G g_MONTH_DAYS
    k_MONTH_DAYS := fun H => .inr ⟨_, _, _, l_MONTH_DAYS, rfl, rfl, (by show 12 ≤ sizeLine; decide), (.cons ⟨_, rfl⟩ (.cons ⟨_, rfl⟩ (.cons ⟨_, rfl⟩ (.cons ⟨_, rfl⟩ (.cons ⟨_, rfl⟩ (.cons ⟨_, rfl⟩ (.cons ⟨_, rfl⟩ (.cons ⟨_, rfl⟩ (.cons ⟨_, rfl⟩ (.cons ⟨_, rfl⟩ (.cons ⟨_, rfl⟩ (.cons ⟨_, rfl⟩ .nil))))))))))))⟩
    g_DAY_MINUTES := ⟨_, PySem.W.mg_of X G g_DAY_MINUTES⟩
    g_TIME_FORM := ⟨_, PySem.W.mg_of X G g_TIME_FORM⟩
    g_MOST_NAME_BYTES := ⟨_, PySem.W.mg_of X G g_MOST_NAME_BYTES⟩
    g_MOST_DIGITS := ⟨_, PySem.W.mg_of X G g_MOST_DIGITS⟩
    g_MOST_TAG_LETTERS := ⟨_, PySem.W.mg_of X G g_MOST_TAG_LETTERS⟩
    g_OTHERWISE := PySem.W.mg_of X G g_OTHERWISE
    k_OTHERWISE := ⟨⟨_, _, l_OTHERWISE, ⟨⟨_, rfl⟩, rfl, ⟨_, rfl⟩, ⟨⟨_, rfl⟩, rfl, ⟨_, rfl⟩, ⟨⟨_, rfl⟩, rfl, ⟨_, rfl⟩, ⟨⟨_, rfl⟩, rfl, ⟨_, rfl⟩, trivial⟩⟩⟩⟩⟩, lo_OTHERWISE⟩
    g_MEANT := PySem.W.mg_of X G g_MEANT
    k_MEANT := ⟨⟨_, _, l_MEANT, ⟨⟨_, rfl⟩, rfl, ⟨_, rfl⟩, ⟨⟨_, rfl⟩, rfl, ⟨_, rfl⟩, ⟨⟨_, rfl⟩, rfl, ⟨_, rfl⟩, ⟨⟨_, rfl⟩, rfl, ⟨_, rfl⟩, trivial⟩⟩⟩⟩⟩, lo_MEANT⟩
    g_RIGHT := ⟨_, PySem.W.mg_of X G g_RIGHT⟩
    g_NO_LINE := ⟨_, PySem.W.mg_of X G g_NO_LINE⟩
    g_MISPLACED := ⟨_, PySem.W.mg_of X G g_MISPLACED⟩
    g_WRONG_VALUE := ⟨_, PySem.W.mg_of X G g_WRONG_VALUE⟩
    g_TOO_MANY := ⟨_, PySem.W.mg_of X G g_TOO_MANY⟩
    g_UNFINISHED := ⟨_, PySem.W.mg_of X G g_UNFINISHED⟩
    g_UNKNOWN := ⟨_, PySem.W.mg_of X G g_UNKNOWN⟩
    g_WRONG := ⟨_, PySem.W.mg_of X G g_WRONG⟩
    g_NO_DATE := ⟨_, PySem.W.mg_of X G g_NO_DATE⟩
    g_FULL := ⟨_, PySem.W.mg_of X G g_FULL⟩
    g_MOST_VALUE_BYTES := ⟨_, PySem.W.mg_of X G g_MOST_VALUE_BYTES⟩
    g_LOAD := ⟨_, PySem.W.mg_of X G g_LOAD⟩
    g_TOLD := ⟨_, PySem.W.mg_of X G g_TOLD⟩
    g_ADD := ⟨_, PySem.W.mg_of X G g_ADD⟩
    g_NAME := ⟨_, PySem.W.mg_of X G g_NAME⟩
    g_LONG := ⟨_, PySem.W.mg_of X G g_LONG⟩
    g_RING := ⟨_, PySem.W.mg_of X G g_RING⟩
    g_TAG := ⟨_, PySem.W.mg_of X G g_TAG⟩
    g_OTHER := ⟨_, PySem.W.mg_of X G g_OTHER⟩
    g_DROP := ⟨_, PySem.W.mg_of X G g_DROP⟩
    g_DATE := ⟨_, PySem.W.mg_of X G g_DATE⟩
    g_FIND := ⟨_, PySem.W.mg_of X G g_FIND⟩
    g_SAME := ⟨_, PySem.W.mg_of X G g_SAME⟩
    g_CUT := ⟨_, PySem.W.mg_of X G g_CUT⟩
    g_JOIN := ⟨_, PySem.W.mg_of X G g_JOIN⟩
    g_SHAPES := PySem.W.mg_of X G g_SHAPES
    k_SHAPES := ⟨[a_SHAPES_0, a_SHAPES_1, a_SHAPES_2, a_SHAPES_3, a_SHAPES_4, a_SHAPES_5, a_SHAPES_6, a_SHAPES_7, a_SHAPES_8, a_SHAPES_9, a_SHAPES_10, a_SHAPES_11, a_SHAPES_12, a_SHAPES_13, a_SHAPES_14], rfl, fun H => .inr ⟨_, _, _, l_SHAPES, rfl, rfl, (by show 15 ≤ sizeLine; decide), (.cons rfl (.cons rfl (.cons rfl (.cons rfl (.cons rfl (.cons rfl (.cons rfl (.cons rfl (.cons rfl (.cons rfl (.cons rfl (.cons rfl (.cons rfl (.cons rfl (.cons rfl .nil)))))))))))))))⟩, fun H i a h => match i, a, h with
    | 0, _, h => Option.some.inj h ▸ .inr ⟨_, _, _, l_SHAPES_0, rfl, rfl, (by show 2 ≤ sizeLine; decide), (.cons ⟨_, rfl⟩ (.cons ⟨_, rfl⟩ .nil))⟩
    | 1, _, h => Option.some.inj h ▸ .inr ⟨_, _, _, l_SHAPES_1, rfl, rfl, (by show 2 ≤ sizeLine; decide), (.cons ⟨_, rfl⟩ (.cons ⟨_, rfl⟩ .nil))⟩
    | 2, _, h => Option.some.inj h ▸ .inr ⟨_, _, _, l_SHAPES_2, rfl, rfl, (by show 2 ≤ sizeLine; decide), (.cons ⟨_, rfl⟩ (.cons ⟨_, rfl⟩ .nil))⟩
    | 3, _, h => Option.some.inj h ▸ .inr ⟨_, _, _, l_SHAPES_3, rfl, rfl, (by show 2 ≤ sizeLine; decide), (.cons ⟨_, rfl⟩ (.cons ⟨_, rfl⟩ .nil))⟩
    | 4, _, h => Option.some.inj h ▸ .inr ⟨_, _, _, l_SHAPES_4, rfl, rfl, (by show 2 ≤ sizeLine; decide), (.cons ⟨_, rfl⟩ (.cons ⟨_, rfl⟩ .nil))⟩
    | 5, _, h => Option.some.inj h ▸ .inr ⟨_, _, _, l_SHAPES_5, rfl, rfl, (by show 2 ≤ sizeLine; decide), (.cons ⟨_, rfl⟩ (.cons ⟨_, rfl⟩ .nil))⟩
    | 6, _, h => Option.some.inj h ▸ .inr ⟨_, _, _, l_SHAPES_6, rfl, rfl, (by show 2 ≤ sizeLine; decide), (.cons ⟨_, rfl⟩ (.cons ⟨_, rfl⟩ .nil))⟩
    | 7, _, h => Option.some.inj h ▸ .inr ⟨_, _, _, l_SHAPES_7, rfl, rfl, (by show 2 ≤ sizeLine; decide), (.cons ⟨_, rfl⟩ (.cons ⟨_, rfl⟩ .nil))⟩
    | 8, _, h => Option.some.inj h ▸ .inr ⟨_, _, _, l_SHAPES_8, rfl, rfl, (by show 2 ≤ sizeLine; decide), (.cons ⟨_, rfl⟩ (.cons ⟨_, rfl⟩ .nil))⟩
    | 9, _, h => Option.some.inj h ▸ .inr ⟨_, _, _, l_SHAPES_9, rfl, rfl, (by show 2 ≤ sizeLine; decide), (.cons ⟨_, rfl⟩ (.cons ⟨_, rfl⟩ .nil))⟩
    | 10, _, h => Option.some.inj h ▸ .inr ⟨_, _, _, l_SHAPES_10, rfl, rfl, (by show 2 ≤ sizeLine; decide), (.cons ⟨_, rfl⟩ (.cons ⟨_, rfl⟩ .nil))⟩
    | 11, _, h => Option.some.inj h ▸ .inr ⟨_, _, _, l_SHAPES_11, rfl, rfl, (by show 2 ≤ sizeLine; decide), (.cons ⟨_, rfl⟩ (.cons ⟨_, rfl⟩ .nil))⟩
    | 12, _, h => Option.some.inj h ▸ .inr ⟨_, _, _, l_SHAPES_12, rfl, rfl, (by show 2 ≤ sizeLine; decide), (.cons ⟨_, rfl⟩ (.cons ⟨_, rfl⟩ .nil))⟩
    | 13, _, h => Option.some.inj h ▸ .inr ⟨_, _, _, l_SHAPES_13, rfl, rfl, (by show 2 ≤ sizeLine; decide), (.cons ⟨_, rfl⟩ (.cons ⟨_, rfl⟩ .nil))⟩
    | 14, _, h => Option.some.inj h ▸ .inr ⟨_, _, _, l_SHAPES_14, rfl, rfl, (by show 2 ≤ sizeLine; decide), (.cons ⟨_, rfl⟩ (.cons ⟨_, rfl⟩ .nil))⟩
    | i + 15, _, h => by simp at h⟩
    z_len := PySem.W.mg_none_of X G z_len
    z_ord := PySem.W.mg_none_of X G z_ord
    z_str := PySem.W.mg_none_of X G z_str
    z_list := PySem.W.mg_none_of X G z_list
    z_all := PySem.W.mg_none_of X G z_all
    z_sum := PySem.W.mg_none_of X G z_sum
    z_sorted := PySem.W.mg_none_of X G z_sorted
    z_range := PySem.W.mg_none_of X G z_range
    z_enumerate := PySem.W.mg_none_of X G z_enumerate
    z_zip := PySem.W.mg_none_of X G z_zip }
end Ct

set_option Elab.async false
set_option linter.all false
open PySem PySem.W PyProof.Rows
set_option maxRecDepth 100000 in
set_option maxHeartbeats 0 in
theorem PySem.Challenge.cw_calendartext_s01_answers_holds : PySem.Challenge.rw_calendartext_s01_answers.Holds := by
  w_on; k_headS; (case hw => exact ⟨[.list [.int 1]], by decide +kernel, by decide +kernel⟩)
  k_fillS
  refine L2.walk_specK (r := PySem.Challenge.rw_calendartext_s01_answers) (k := 12) (CX := L2.CX0) (ps := ["calls"]) (sp := Ct.spAnswers) (by decide +kernel) rfl rfl ⟨rfl, by decide, by decide⟩ (fun w h Y => PySem.W.kIn_of Y) ?F ?S (fun _ _ _ _ z => z)
  case F =>
    intro w mg fa h Y KX G hmg
    refine' Exists.elim (Ct.all_mk (P := PySem.Challenge.rw_calendartext_s01_answers.prog) (w := w) KX G hmg ?aC_Calendar ?pg_Calendar ?hd_Calendar ?po_Calendar ?sa_Calendar ?mk_Calendar ?kc_Calendar ?n_Calendar_title ?n_Calendar_dates ?aC_Date ?pg_Date ?hd_Date ?po_Date ?sa_Date ?mk_Date ?kc_Date ?n_Date_day ?n_Date_minute ?n_Date_length ?n_Date_name ?n_Date_rings ?n_Date_tags ?n_Date_others ?aC_Reading ?pg_Reading ?hd_Reading ?po_Reading ?sa_Reading ?mk_Reading ?kc_Reading ?n_Reading_calendar ?n_Reading_within_date ?n_Reading_fault ?a_row_of ?l_row_of ?c_row_of_ ?k_row_of ?a_counted ?l_counted ?c_counted_ ?k_counted ?a_split_row ?l_split_row ?c_split_row_ ?k_split_row ?a_is_small_letter ?l_is_small_letter ?c_is_small_letter_ ?k_is_small_letter ?a_is_digit ?l_is_digit ?c_is_digit_ ?k_is_digit ?a_number_of ?l_number_of ?c_number_of_ ?k_number_of ?a_put_together ?l_put_together ?c_put_together_ ?k_put_together ?a_is_ended ?l_is_ended ?c_is_ended_ ?k_is_ended ?a_lines_of ?l_lines_of ?c_lines_of_ ?k_lines_of ?a_cut_line ?l_cut_line ?c_cut_line_ ?k_cut_line ?a_may_stand_in_line_name ?l_may_stand_in_line_name ?c_may_stand_in_line_name_ ?k_may_stand_in_line_name ?a_name_size ?l_name_size ?c_name_size_ ?k_name_size ?a_is_other_name ?l_is_other_name ?c_is_other_name_ ?k_is_other_name ?a_Date_init ?i_Date_init ?l_Date_init ?c_Date_init_ ?k_Date_init ?a_Calendar_init ?i_Calendar_init ?l_Calendar_init ?c_Calendar_init_ ?k_Calendar_init ?a_days_of_year ?l_days_of_year ?c_days_of_year_ ?k_days_of_year ?a_days_of_month ?l_days_of_month ?c_days_of_month_ ?k_days_of_month ?a_is_day ?l_is_day ?c_is_day_ ?k_is_day ?a_is_minute ?l_is_minute ?c_is_minute_ ?k_is_minute ?a_day_number ?l_day_number ?c_day_number_ ?k_day_number ?a_day_parts ?l_day_parts ?c_day_parts_ ?k_day_parts ?a_two_digits ?l_two_digits ?c_two_digits_ ?k_two_digits ?a_tell_time ?l_tell_time ?c_tell_time_ ?k_tell_time ?a_has_time_form ?l_has_time_form ?c_has_time_form_ ?k_has_time_form ?a_read_time ?l_read_time ?c_read_time_ ?k_read_time ?a_may_stand_in_name ?l_may_stand_in_name ?c_may_stand_in_name_ ?k_may_stand_in_name ?a_is_name ?l_is_name ?c_is_name_ ?k_is_name ?a_tell_name ?l_tell_name ?c_tell_name_ ?k_tell_name ?a_read_name ?l_read_name ?c_read_name_ ?k_read_name ?a_read_number ?l_read_number ?c_read_number_ ?k_read_number ?a_is_tag ?l_is_tag ?c_is_tag_ ?k_is_tag ?a_read_tags ?l_read_tags ?c_read_tags_ ?k_read_tags ?a_Reading_init ?i_Reading_init ?l_Reading_init ?c_Reading_init_ ?k_Reading_init ?a_told_fault ?l_told_fault ?c_told_fault_ ?k_told_fault ?a_read_title ?l_read_title ?c_read_title_ ?k_read_title ?a_read_begin ?l_read_begin ?c_read_begin_ ?k_read_begin ?a_read_end ?l_read_end ?c_read_end_ ?k_read_end ?a_read_date_name ?l_read_date_name ?c_read_date_name_ ?k_read_date_name ?a_read_at ?l_read_at ?c_read_at_ ?k_read_at ?a_read_long ?l_read_long ?c_read_long_ ?k_read_long ?a_read_ring ?l_read_ring ?c_read_ring_ ?k_read_ring ?a_has_one_twice ?l_has_one_twice ?c_has_one_twice_ ?k_has_one_twice ?a_read_tag ?l_read_tag ?c_read_tag_ ?k_read_tag ?a_read_other ?l_read_other ?c_read_other_ ?k_read_other ?a_read_outside ?l_read_outside ?c_read_outside_ ?k_read_outside ?a_read_within ?l_read_within ?c_read_within_ ?k_read_within ?a_read_line ?l_read_line ?c_read_line_ ?k_read_line ?a_read_lines ?l_read_lines ?c_read_lines_ ?k_read_lines ?a_read ?l_read ?c_read_ ?k_read ?a_date_numbers ?l_date_numbers ?c_date_numbers_ ?k_date_numbers ?a_dates_with_tag ?l_dates_with_tag ?c_dates_with_tag_ ?k_dates_with_tag ?a_has_the_same ?l_has_the_same ?c_has_the_same_ ?k_has_the_same ?a_compare ?l_compare ?c_compare_ ?k_compare ?a_cut_given ?l_cut_given ?c_cut_given_ ?k_cut_given ?a_load ?l_load ?c_load_ ?k_load ?a_add_date ?l_add_date ?c_add_date_ ?k_add_date ?a_drop_date ?l_drop_date ?c_drop_date_ ?k_drop_date ?a_set_title ?l_set_title ?c_set_title_ ?k_set_title ?a_set_name ?l_set_name ?c_set_name_ ?k_set_name ?a_set_length ?l_set_length ?c_set_length_ ?k_set_length ?a_switch_ring ?l_switch_ring ?c_switch_ring_ ?k_switch_ring ?a_switch_tag ?l_switch_tag ?c_switch_tag_ ?k_switch_tag ?a_add_other ?l_add_other ?c_add_other_ ?k_add_other ?a_line_of ?l_line_of ?c_line_of_ ?k_line_of ?a_tell_tags ?l_tell_tags ?c_tell_tags_ ?k_tell_tags ?a_date_lines ?l_date_lines ?c_date_lines_ ?k_date_lines ?a_calendar_lines ?l_calendar_lines ?c_calendar_lines_ ?k_calendar_lines ?a_tell ?l_tell ?c_tell_ ?k_tell ?a_answer_about_date ?l_answer_about_date ?c_answer_about_date_ ?k_answer_about_date ?a_answer_about_row ?l_answer_about_row ?c_answer_about_row_ ?k_answer_about_row ?a_answer ?l_answer ?c_answer_ ?k_answer ?a_answers ?l_answers ?c_answers_ ?k_answers ?g_NEWLINE ?g_BLANK ?g_COMMA ?g_HYPHEN ?g_ZERO ?g_COLON ?g_BACKSLASH ?g_FIRST_PIECE ?g_NEXT_PIECE ?g_MOST_NAME ?g_LEAST_OTHER_NAME ?g_MOST_DATES ?g_MOST_RINGS ?g_MOST_TAGS ?g_MOST_OTHERS ?g_MOST_NUMBER ?g_FIRST_YEAR ?g_LAST_YEAR ?g_MONTH_DAYS ?l_MONTH_DAYS ?g_DAY_MINUTES ?g_TIME_FORM ?g_MOST_NAME_BYTES ?g_MOST_DIGITS ?g_MOST_TAG_LETTERS ?g_OTHERWISE ?l_OTHERWISE ?lo_OTHERWISE ?g_MEANT ?l_MEANT ?lo_MEANT ?g_RIGHT ?g_NO_LINE ?g_MISPLACED ?g_WRONG_VALUE ?g_TOO_MANY ?g_UNFINISHED ?g_UNKNOWN ?g_WRONG ?g_NO_DATE ?g_FULL ?g_MOST_VALUE_BYTES ?g_LOAD ?g_TOLD ?g_ADD ?g_NAME ?g_LONG ?g_RING ?g_TAG ?g_OTHER ?g_DROP ?g_DATE ?g_FIND ?g_SAME ?g_CUT ?g_JOIN ?g_SHAPES ?l_SHAPES ?l_SHAPES_0 ?l_SHAPES_1 ?l_SHAPES_2 ?l_SHAPES_3 ?l_SHAPES_4 ?l_SHAPES_5 ?l_SHAPES_6 ?l_SHAPES_7 ?l_SHAPES_8 ?l_SHAPES_9 ?l_SHAPES_10 ?l_SHAPES_11 ?l_SHAPES_12 ?l_SHAPES_13 ?l_SHAPES_14 ?z_len ?z_ord ?z_str ?z_list ?z_all ?z_sum ?z_sorted ?z_range ?z_enumerate ?z_zip) ?rest
    (case aC_Calendar => k_is)
    (case pg_Calendar => k_is)
    (case hd_Calendar => k_is)
    (case po_Calendar => k_is)
    (case sa_Calendar => k_is)
    (case mk_Calendar => k_is)
    (case kc_Calendar => k_is)
    (case n_Calendar_title => k_is)
    (case n_Calendar_dates => k_is)
    (case aC_Date => k_is)
    (case pg_Date => k_is)
    (case hd_Date => k_is)
    (case po_Date => k_is)
    (case sa_Date => k_is)
    (case mk_Date => k_is)
    (case kc_Date => k_is)
    (case n_Date_day => k_is)
    (case n_Date_minute => k_is)
    (case n_Date_length => k_is)
    (case n_Date_name => k_is)
    (case n_Date_rings => k_is)
    (case n_Date_tags => k_is)
    (case n_Date_others => k_is)
    (case aC_Reading => k_is)
    (case pg_Reading => k_is)
    (case hd_Reading => k_is)
    (case po_Reading => k_is)
    (case sa_Reading => k_is)
    (case mk_Reading => k_is)
    (case kc_Reading => k_is)
    (case n_Reading_calendar => k_is)
    (case n_Reading_within_date => k_is)
    (case n_Reading_fault => k_is)
    (case a_row_of => k_is)
    (case l_row_of => k_is)
    (case c_row_of_ => k_is)
    (case k_row_of => k_is)
    (case a_counted => k_is)
    (case l_counted => k_is)
    (case c_counted_ => k_is)
    (case k_counted => k_is)
    (case a_split_row => k_is)
    (case l_split_row => k_is)
    (case c_split_row_ => k_is)
    (case k_split_row => k_is)
    (case a_is_small_letter => k_is)
    (case l_is_small_letter => k_is)
    (case c_is_small_letter_ => k_is)
    (case k_is_small_letter => k_is)
    (case a_is_digit => k_is)
    (case l_is_digit => k_is)
    (case c_is_digit_ => k_is)
    (case k_is_digit => k_is)
    (case a_number_of => k_is)
    (case l_number_of => k_is)
    (case c_number_of_ => k_is)
    (case k_number_of => k_is)
    (case a_put_together => k_is)
    (case l_put_together => k_is)
    (case c_put_together_ => k_is)
    (case k_put_together => k_is)
    (case a_is_ended => k_is)
    (case l_is_ended => k_is)
    (case c_is_ended_ => k_is)
    (case k_is_ended => k_is)
    (case a_lines_of => k_is)
    (case l_lines_of => k_is)
    (case c_lines_of_ => k_is)
    (case k_lines_of => k_is)
    (case a_cut_line => k_is)
    (case l_cut_line => k_is)
    (case c_cut_line_ => k_is)
    (case k_cut_line => k_is)
    (case a_may_stand_in_line_name => k_is)
    (case l_may_stand_in_line_name => k_is)
    (case c_may_stand_in_line_name_ => k_is)
    (case k_may_stand_in_line_name => k_is)
    (case a_name_size => k_is)
    (case l_name_size => k_is)
    (case c_name_size_ => k_is)
    (case k_name_size => k_is)
    (case a_is_other_name => k_is)
    (case l_is_other_name => k_is)
    (case c_is_other_name_ => k_is)
    (case k_is_other_name => k_is)
    (case a_Date_init => k_is)
    (case i_Date_init => k_is)
    (case l_Date_init => k_is)
    (case c_Date_init_ => k_is)
    (case k_Date_init => k_is)
    (case a_Calendar_init => k_is)
    (case i_Calendar_init => k_is)
    (case l_Calendar_init => k_is)
    (case c_Calendar_init_ => k_is)
    (case k_Calendar_init => k_is)
    (case a_days_of_year => k_is)
    (case l_days_of_year => k_is)
    (case c_days_of_year_ => k_is)
    (case k_days_of_year => k_is)
    (case a_days_of_month => k_is)
    (case l_days_of_month => k_is)
    (case c_days_of_month_ => k_is)
    (case k_days_of_month => k_is)
    (case a_is_day => k_is)
    (case l_is_day => k_is)
    (case c_is_day_ => k_is)
    (case k_is_day => k_is)
    (case a_is_minute => k_is)
    (case l_is_minute => k_is)
    (case c_is_minute_ => k_is)
    (case k_is_minute => k_is)
    (case a_day_number => k_is)
    (case l_day_number => k_is)
    (case c_day_number_ => k_is)
    (case k_day_number => k_is)
    (case a_day_parts => k_is)
    (case l_day_parts => k_is)
    (case c_day_parts_ => k_is)
    (case k_day_parts => k_is)
    (case a_two_digits => k_is)
    (case l_two_digits => k_is)
    (case c_two_digits_ => k_is)
    (case k_two_digits => k_is)
    (case a_tell_time => k_is)
    (case l_tell_time => k_is)
    (case c_tell_time_ => k_is)
    (case k_tell_time => k_is)
    (case a_has_time_form => k_is)
    (case l_has_time_form => k_is)
    (case c_has_time_form_ => k_is)
    (case k_has_time_form => k_is)
    (case a_read_time => k_is)
    (case l_read_time => k_is)
    (case c_read_time_ => k_is)
    (case k_read_time => k_is)
    (case a_may_stand_in_name => k_is)
    (case l_may_stand_in_name => k_is)
    (case c_may_stand_in_name_ => k_is)
    (case k_may_stand_in_name => k_is)
    (case a_is_name => k_is)
    (case l_is_name => k_is)
    (case c_is_name_ => k_is)
    (case k_is_name => k_is)
    (case a_tell_name => k_is)
    (case l_tell_name => k_is)
    (case c_tell_name_ => k_is)
    (case k_tell_name => k_is)
    (case a_read_name => k_is)
    (case l_read_name => k_is)
    (case c_read_name_ => k_is)
    (case k_read_name => k_is)
    (case a_read_number => k_is)
    (case l_read_number => k_is)
    (case c_read_number_ => k_is)
    (case k_read_number => k_is)
    (case a_is_tag => k_is)
    (case l_is_tag => k_is)
    (case c_is_tag_ => k_is)
    (case k_is_tag => k_is)
    (case a_read_tags => k_is)
    (case l_read_tags => k_is)
    (case c_read_tags_ => k_is)
    (case k_read_tags => k_is)
    (case a_Reading_init => k_is)
    (case i_Reading_init => k_is)
    (case l_Reading_init => k_is)
    (case c_Reading_init_ => k_is)
    (case k_Reading_init => k_is)
    (case a_told_fault => k_is)
    (case l_told_fault => k_is)
    (case c_told_fault_ => k_is)
    (case k_told_fault => k_is)
    (case a_read_title => k_is)
    (case l_read_title => k_is)
    (case c_read_title_ => k_is)
    (case k_read_title => k_is)
    (case a_read_begin => k_is)
    (case l_read_begin => k_is)
    (case c_read_begin_ => k_is)
    (case k_read_begin => k_is)
    (case a_read_end => k_is)
    (case l_read_end => k_is)
    (case c_read_end_ => k_is)
    (case k_read_end => k_is)
    (case a_read_date_name => k_is)
    (case l_read_date_name => k_is)
    (case c_read_date_name_ => k_is)
    (case k_read_date_name => k_is)
    (case a_read_at => k_is)
    (case l_read_at => k_is)
    (case c_read_at_ => k_is)
    (case k_read_at => k_is)
    (case a_read_long => k_is)
    (case l_read_long => k_is)
    (case c_read_long_ => k_is)
    (case k_read_long => k_is)
    (case a_read_ring => k_is)
    (case l_read_ring => k_is)
    (case c_read_ring_ => k_is)
    (case k_read_ring => k_is)
    (case a_has_one_twice => k_is)
    (case l_has_one_twice => k_is)
    (case c_has_one_twice_ => k_is)
    (case k_has_one_twice => k_is)
    (case a_read_tag => k_is)
    (case l_read_tag => k_is)
    (case c_read_tag_ => k_is)
    (case k_read_tag => k_is)
    (case a_read_other => k_is)
    (case l_read_other => k_is)
    (case c_read_other_ => k_is)
    (case k_read_other => k_is)
    (case a_read_outside => k_is)
    (case l_read_outside => k_is)
    (case c_read_outside_ => k_is)
    (case k_read_outside => k_is)
    (case a_read_within => k_is)
    (case l_read_within => k_is)
    (case c_read_within_ => k_is)
    (case k_read_within => k_is)
    (case a_read_line => k_is)
    (case l_read_line => k_is)
    (case c_read_line_ => k_is)
    (case k_read_line => k_is)
    (case a_read_lines => k_is)
    (case l_read_lines => k_is)
    (case c_read_lines_ => k_is)
    (case k_read_lines => k_is)
    (case a_read => k_is)
    (case l_read => k_is)
    (case c_read_ => k_is)
    (case k_read => k_is)
    (case a_date_numbers => k_is)
    (case l_date_numbers => k_is)
    (case c_date_numbers_ => k_is)
    (case k_date_numbers => k_is)
    (case a_dates_with_tag => k_is)
    (case l_dates_with_tag => k_is)
    (case c_dates_with_tag_ => k_is)
    (case k_dates_with_tag => k_is)
    (case a_has_the_same => k_is)
    (case l_has_the_same => k_is)
    (case c_has_the_same_ => k_is)
    (case k_has_the_same => k_is)
    (case a_compare => k_is)
    (case l_compare => k_is)
    (case c_compare_ => k_is)
    (case k_compare => k_is)
    (case a_cut_given => k_is)
    (case l_cut_given => k_is)
    (case c_cut_given_ => k_is)
    (case k_cut_given => k_is)
    (case a_load => k_is)
    (case l_load => k_is)
    (case c_load_ => k_is)
    (case k_load => k_is)
    (case a_add_date => k_is)
    (case l_add_date => k_is)
    (case c_add_date_ => k_is)
    (case k_add_date => k_is)
    (case a_drop_date => k_is)
    (case l_drop_date => k_is)
    (case c_drop_date_ => k_is)
    (case k_drop_date => k_is)
    (case a_set_title => k_is)
    (case l_set_title => k_is)
    (case c_set_title_ => k_is)
    (case k_set_title => k_is)
    (case a_set_name => k_is)
    (case l_set_name => k_is)
    (case c_set_name_ => k_is)
    (case k_set_name => k_is)
    (case a_set_length => k_is)
    (case l_set_length => k_is)
    (case c_set_length_ => k_is)
    (case k_set_length => k_is)
    (case a_switch_ring => k_is)
    (case l_switch_ring => k_is)
    (case c_switch_ring_ => k_is)
    (case k_switch_ring => k_is)
    (case a_switch_tag => k_is)
    (case l_switch_tag => k_is)
    (case c_switch_tag_ => k_is)
    (case k_switch_tag => k_is)
    (case a_add_other => k_is)
    (case l_add_other => k_is)
    (case c_add_other_ => k_is)
    (case k_add_other => k_is)
    (case a_line_of => k_is)
    (case l_line_of => k_is)
    (case c_line_of_ => k_is)
    (case k_line_of => k_is)
    (case a_tell_tags => k_is)
    (case l_tell_tags => k_is)
    (case c_tell_tags_ => k_is)
    (case k_tell_tags => k_is)
    (case a_date_lines => k_is)
    (case l_date_lines => k_is)
    (case c_date_lines_ => k_is)
    (case k_date_lines => k_is)
    (case a_calendar_lines => k_is)
    (case l_calendar_lines => k_is)
    (case c_calendar_lines_ => k_is)
    (case k_calendar_lines => k_is)
    (case a_tell => k_is)
    (case l_tell => k_is)
    (case c_tell_ => k_is)
    (case k_tell => k_is)
    (case a_answer_about_date => k_is)
    (case l_answer_about_date => k_is)
    (case c_answer_about_date_ => k_is)
    (case k_answer_about_date => k_is)
    (case a_answer_about_row => k_is)
    (case l_answer_about_row => k_is)
    (case c_answer_about_row_ => k_is)
    (case k_answer_about_row => k_is)
    (case a_answer => k_is)
    (case l_answer => k_is)
    (case c_answer_ => k_is)
    (case k_answer => k_is)
    (case a_answers => k_is)
    (case l_answers => k_is)
    (case c_answers_ => k_is)
    (case k_answers => k_is)
    (case g_NEWLINE => k_is)
    (case g_BLANK => k_is)
    (case g_COMMA => k_is)
    (case g_HYPHEN => k_is)
    (case g_ZERO => k_is)
    (case g_COLON => k_is)
    (case g_BACKSLASH => k_is)
    (case g_FIRST_PIECE => k_is)
    (case g_NEXT_PIECE => k_is)
    (case g_MOST_NAME => k_is)
    (case g_LEAST_OTHER_NAME => k_is)
    (case g_MOST_DATES => k_is)
    (case g_MOST_RINGS => k_is)
    (case g_MOST_TAGS => k_is)
    (case g_MOST_OTHERS => k_is)
    (case g_MOST_NUMBER => k_is)
    (case g_FIRST_YEAR => k_is)
    (case g_LAST_YEAR => k_is)
    (case g_MONTH_DAYS => k_is)
    (case l_MONTH_DAYS => k_is)
    (case g_DAY_MINUTES => k_is)
    (case g_TIME_FORM => k_is)
    (case g_MOST_NAME_BYTES => k_is)
    (case g_MOST_DIGITS => k_is)
    (case g_MOST_TAG_LETTERS => k_is)
    (case g_OTHERWISE => k_is)
    (case l_OTHERWISE => k_is)
    (case lo_OTHERWISE => first | decide | rfl | decide +kernel)
    (case g_MEANT => k_is)
    (case l_MEANT => k_is)
    (case lo_MEANT => first | decide | rfl | decide +kernel)
    (case g_RIGHT => k_is)
    (case g_NO_LINE => k_is)
    (case g_MISPLACED => k_is)
    (case g_WRONG_VALUE => k_is)
    (case g_TOO_MANY => k_is)
    (case g_UNFINISHED => k_is)
    (case g_UNKNOWN => k_is)
    (case g_WRONG => k_is)
    (case g_NO_DATE => k_is)
    (case g_FULL => k_is)
    (case g_MOST_VALUE_BYTES => k_is)
    (case g_LOAD => k_is)
    (case g_TOLD => k_is)
    (case g_ADD => k_is)
    (case g_NAME => k_is)
    (case g_LONG => k_is)
    (case g_RING => k_is)
    (case g_TAG => k_is)
    (case g_OTHER => k_is)
    (case g_DROP => k_is)
    (case g_DATE => k_is)
    (case g_FIND => k_is)
    (case g_SAME => k_is)
    (case g_CUT => k_is)
    (case g_JOIN => k_is)
    (case g_SHAPES => k_is)
    (case l_SHAPES => k_is)
    (case l_SHAPES_0 => k_is)
    (case l_SHAPES_1 => k_is)
    (case l_SHAPES_2 => k_is)
    (case l_SHAPES_3 => k_is)
    (case l_SHAPES_4 => k_is)
    (case l_SHAPES_5 => k_is)
    (case l_SHAPES_6 => k_is)
    (case l_SHAPES_7 => k_is)
    (case l_SHAPES_8 => k_is)
    (case l_SHAPES_9 => k_is)
    (case l_SHAPES_10 => k_is)
    (case l_SHAPES_11 => k_is)
    (case l_SHAPES_12 => k_is)
    (case l_SHAPES_13 => k_is)
    (case l_SHAPES_14 => k_is)
    (case z_len => k_is)
    (case z_ord => k_is)
    (case z_str => k_is)
    (case z_list => k_is)
    (case z_all => k_is)
    (case z_sum => k_is)
    (case z_sorted => k_is)
    (case z_range => k_is)
    (case z_enumerate => k_is)
    (case z_zip => k_is)
    case rest =>
      rintro A ⟨T, rfl, oc, od, an, sl, kV, dc, pm, cd, ct, e⟩
      exact ⟨A.d_answers, fun s us hu => match us, hu with | [_], _ => (by rw [e]; exact .of_eq rfl), fun base _ _ => Ct.ok_answers T⟩
  case S =>
    intro K H xs a hO hwi hask hx
    cases hx with
    | cons h1 h2 =>
      cases h2
      cases h1 with
      | lst hs ha =>
        have e := L2.ints_dw a.1 _ ha
        subst e
        have q : ((Codec.inLen 0 60000 a.1 && a.1.all (Codec.inInt 0 20000)) && true) = true := hwi
        rw [Bool.and_eq_true, Bool.and_eq_true] at q
        exact Ct.request hs q.1.2 (Codec.inNat_iff.mp q.1.1).2 hask fun H' p hp => .lst (L2.SqL.of hp) (L2.dw_ints _)
#print axioms PySem.Challenge.cw_calendartext_s01_answers_holds

