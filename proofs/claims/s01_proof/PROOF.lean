import PyProof.Rows.All
import Wide.All
import OpenK.AllK
import Wide.FinOn
import PyProof.EqAt
import PyProof.EqKinds
import PyProof.TupleCall
import KE.BitLaws
import Open.SpecLaws
import KE.OsHead
import KE.OsGo
import KE.SpHead
import KE.OsShapes
import PyProof.StationsW
import PyProof.PassesOwn
import PyProof.InstStoreFacts
import PyProof.ExcArgsOwn
import PyProof.ExcInit
import PyProof.RulesAs
import PyProof.ExcBaseAll.ValueError
import PyProof.ExcAttrAll.ValueError
import PyFlatLaws
import PySem.Challenge.RW_stagelamps_s01_answers
set_option Elab.async false
set_option linter.all false
set_option maxRecDepth 100000
section
set_option Elab.async false
set_option linter.all false
set_option maxRecDepth 100000
namespace L2
open PySem PySem.Spec PyProof.Rows
/-- the j-th statement of a class's body -/
def inClass (s : Stmt) (j : Nat) : Stmt := match s with
  | .ClassDef _ _ _ body _ _ _ _ _ _ _ => body.getD j (.Pass ⟨0, 0, 0, 0⟩)
  | _ => .Pass ⟨0, 0, 0, 0⟩
def defArgs (s : Stmt) : Arguments := match s with
  | .FunctionDef _ a _ _ _ _ _ _ _ _ => a
  | _ => { posonlyargs := [], args := [], vararg := none, kwonlyargs := [], kw_defaults := [], kwarg := none, defaults := [] }
def defBody (s : Stmt) : List Stmt := match s with
  | .FunctionDef _ _ b _ _ _ _ _ _ _ => b
  | _ => []
def defScope (s : Stmt) : Scope := match s with
  | .FunctionDef _ _ _ _ _ _ sc _ _ _ => sc
  | _ => { kind := .function, names := [], isGenerator := false, isCoroutine := false }
end L2
namespace Sl
open PySem PySem.W L2
abbrev prg : Program := PySem.Challenge.pw_stagelamps_s01_answers
def top (i : Nat) : Stmt := PySem.Challenge.pw_stagelamps_s01_answers.main.body.getD i (.Pass ⟨0, 0, 0, 0⟩)
abbrev s_Dimmer_init : Stmt := inClass (top 15) 0
abbrev s_TextFault_init : Stmt := inClass (top 16) 0
abbrev s_bytes_of : Stmt := top 17
abbrev s_lines_of : Stmt := top 18
abbrev s_fields_of : Stmt := top 19
abbrev s_is_decimal : Stmt := top 20
abbrev s_read_number : Stmt := top 21
abbrev s_read_curve : Stmt := top 22
abbrev s_read_dimmer : Stmt := top 23
abbrev s_read_patch : Stmt := top 24
abbrev s_write_dimmer : Stmt := top 25
abbrev s_write_patch : Stmt := top 26
abbrev s_Dealing_init : Stmt := inClass (top 28) 0
abbrev s_Dealing_with_load : Stmt := inClass (top 28) 1
abbrev s_Dealing_is_needless : Stmt := inClass (top 28) 2
abbrev s_no_loads_dealt : Stmt := top 29
abbrev s_next_dealings : Stmt := top 30
abbrev s_least_thinkable : Stmt := top 31
abbrev s_deal_evenly : Stmt := top 32
abbrev s_nearest : Stmt := top 37
abbrev s_curve_at : Stmt := top 38
abbrev s_given_by : Stmt := top 39
abbrev s_least_level : Stmt := top 40
abbrev s_CallReader_init : Stmt := inClass (top 42) 0
abbrev s_CallReader_at_end : Stmt := inClass (top 42) 1
abbrev s_CallReader_take_number : Stmt := inClass (top 42) 2
abbrev s_CallReader_take_row : Stmt := inClass (top 42) 3
abbrev s_is_channel : Stmt := top 62
abbrev s_is_phase : Stmt := top 63
abbrev s_can_be_dealt : Stmt := top 64
abbrev s_Desk_init : Stmt := inClass (top 65) 0
abbrev s_Desk_level_of : Stmt := inClass (top 65) 1
abbrev s_Desk_given_now : Stmt := inClass (top 65) 2
abbrev s_Desk_find_dimmer : Stmt := inClass (top 65) 3
abbrev s_Desk_answer_patch : Stmt := inClass (top 65) 4
abbrev s_Desk_answer_print : Stmt := inClass (top 65) 5
abbrev s_Desk_answer_set : Stmt := inClass (top 65) 6
abbrev s_Desk_answer_level : Stmt := inClass (top 65) 7
abbrev s_Desk_answer_out : Stmt := inClass (top 65) 8
abbrev s_Desk_answer_outs : Stmt := inClass (top 65) 9
abbrev s_Desk_answer_channel : Stmt := inClass (top 65) 10
abbrev s_Desk_answer_needs : Stmt := inClass (top 65) 11
abbrev s_Desk_answer_load : Stmt := inClass (top 65) 12
abbrev s_Desk_answer_evenly : Stmt := inClass (top 65) 13
abbrev s_answer_next : Stmt := top 66
abbrev s_answers : Stmt := top 67
abbrev en (P : Params) (x : Str) (t : Tok) (v : Value) : DictEntry := { hash := PyData.keyHash P x, key := .str x t, val := v }
def tops : List Stmt := PySem.Challenge.pw_stagelamps_s01_answers.main.body
/-- the text's last def alone; all other names are loose -/
def view : Program := { PySem.Challenge.pw_stagelamps_s01_answers with main := { PySem.Challenge.pw_stagelamps_s01_answers.main with body := tops.drop 67 } }
def lose : List Str := (["HIGHEST_DIMMER", "CHANNELS", "FULL_LIMIT", "MOST_LOAD", "PHASES", "CURVES", "LINE_END", "BLANK", "NOUGHT", "NINE", "FIELDS", "MOST_DIGITS", "NO_SUCH_LINE", "NOT_RISING", "Dimmer", "TextFault", "bytes_of", "lines_of", "fields_of", "is_decimal", "read_number", "read_curve", "read_dimmer", "read_patch", "write_dimmer", "write_patch", "Dealing", "no_loads_dealt", "next_dealings", "least_thinkable", "deal_evenly", "FULL_LEVEL", "SWITCH_LEVEL", "FULL_OUTPUT", "nearest", "curve_at", "given_by", "least_level", "CallReader", "MOST_TEXT", "MOST_DEALT", "OUT_OF_BOUNDS", "TOO_LONG", "NO_SUCH_LEVEL", "NO_SUCH_DIMMER", "NO_PATCH", "PATCH", "PRINT_PATCH", "SET_LEVEL", "LEVEL", "OUT", "OUTS", "CHANNEL", "NEEDS", "LOAD", "EVENLY", "UnknownCall", "is_channel", "is_phase", "can_be_dealt", "Desk", "answer_next"] : List String).map Str.ofString
/-- the objects that the top has written -/
def objs : Params → Frag := fun P =>
  List.cons (nat_lit 2, ({ cls := .none, data := .dict #[] } : Obj)) <|
  List.cons (nat_lit 3, ({ cls := .type "dict", data := .dict #[en P "__name__" 165 (.str "stagelamps.desk" 567), en P "__doc__" 166 (.none), en P "__package__" 167 (.none), en P "__loader__" 168 (.builtin "__main__.__loader__#opaque"), en P "__spec__" 169 (.none), en P "__annotations__" 170 (.ref 6), en P "__builtins__" 171 (.ref 4), en P "__file__" 173 (.str "/claim/cut.py" 172), en P "__cached__" 174 (.none), en P "HIGHEST_DIMMER" 190 (.int 128 189), en P "CHANNELS" 192 (.int 64 191), en P "FULL_LIMIT" 194 (.int 100 193), en P "MOST_LOAD" 196 (.int 5000 195), en P "PHASES" 198 (.int 3 197), en P "CURVES" 203 (.ref 15), en P "LINE_END" 205 (.int 10 204), en P "BLANK" 207 (.int 32 206), en P "NOUGHT" 209 (.int 48 208), en P "NINE" 211 (.int 57 210), en P "FIELDS" 213 (.int 6 212), en P "MOST_DIGITS" 215 (.int 4 214), en P "NO_SUCH_LINE" 217 (.int 1 216), en P "NOT_RISING" 219 (.int 2 218), en P "Dimmer" 258 (.ref 32), en P "TextFault" 287 (.ref 53), en P "bytes_of" 293 (.ref 61), en P "lines_of" 304 (.ref 68), en P "fields_of" 313 (.ref 75), en P "is_decimal" 319 (.ref 80), en P "read_number" 330 (.ref 87), en P "read_curve" 338 (.ref 94), en P "read_dimmer" 352 (.ref 101), en P "read_patch" 364 (.ref 108), en P "write_dimmer" 372 (.ref 115), en P "write_patch" 381 (.ref 122), en P "Dealing" 432 (.ref 153), en P "no_loads_dealt" 438 (.ref 164), en P "next_dealings" 448 (.ref 171), en P "least_thinkable" 456 (.ref 178), en P "deal_evenly" 469 (.ref 185), en P "FULL_LEVEL" 473 (.int 100 472), en P "SWITCH_LEVEL" 475 (.int 50 474), en P "FULL_OUTPUT" 477 (.int 255 476), en P "nearest" 485 (.ref 192), en P "curve_at" 493 (.ref 199), en P "given_by" 501 (.ref 206), en P "least_level" 510 (.ref 213), en P "CallReader" 566 (.ref 251), en P "MOST_TEXT" 570 (.int 8192 569), en P "MOST_DEALT" 572 (.int 9 571), en P "OUT_OF_BOUNDS" 575 (.int (-1) 574), en P "TOO_LONG" 578 (.int (-2) 577), en P "NO_SUCH_LEVEL" 581 (.int (-3) 580), en P "NO_SUCH_DIMMER" 584 (.int (-4) 583), en P "NO_PATCH" 587 (.int (-6) 586), en P "PATCH" 589 (.int 0 588), en P "PRINT_PATCH" 591 (.int 1 590), en P "SET_LEVEL" 593 (.int 2 592), en P "LEVEL" 595 (.int 3 594), en P "OUT" 597 (.int 4 596), en P "OUTS" 599 (.int 5 598), en P "CHANNEL" 601 (.int 6 600), en P "NEEDS" 603 (.int 7 602), en P "LOAD" 605 (.int 8 604), en P "EVENLY" 607 (.int 9 606), en P "UnknownCall" 625 (.ref 265), en P "is_channel" 632 (.ref 275), en P "is_phase" 639 (.ref 282), en P "can_be_dealt" 645 (.ref 287), en P "Desk" 781 (.ref 389), en P "answer_next" 794 (.ref 400), en P "answers" 805 (.ref 407)] 72 } : Obj)) <|
  List.cons (nat_lit 15, ({ cls := .type "tuple", data := .seq #[.str "linear" 199, .str "square" 200, .str "soft" 201, .str "switch" 202] } : Obj)) <|
  List.cons (nat_lit 23, ({ cls := .type "tuple", data := .seq #[] } : Obj)) <|
  List.cons (nat_lit 25, ({ cls := .type "tuple", data := .seq #[.str "self" 235, .str "number" 236, .str "channel" 237, .str "curve" 238, .str "limit" 239, .str "load" 240, .str "phase" 241] } : Obj)) <|
  List.cons (nat_lit 26, ({ cls := .type "tuple", data := .seq #[] } : Obj)) <|
  List.cons (nat_lit 28, ({ cls := .type "code", data := .fields #[.str "__init__" 232, .str "Dimmer.__init__" 233, .str "/claim/cut.py" 234, .int 18 0, .int 7 0, .int 0 0, .int 0 0, .int 3 0, .ref 23, .bool true, .int 181 0, .ref 24, .none, .ref 25, .ref 26, .ref 27, .int 242 0, .int 18 0, .str "/claim/cut.py" 243] } : Obj)) <|
  List.cons (nat_lit 29, ({ cls := .type "function", data := .func (PySem.W.fnOf "__init__" "Dimmer.__init__" (defArgs s_Dimmer_init) (defBody s_Dimmer_init) (defScope s_Dimmer_init) .none .none (.none) (.str "stagelamps.patches" 187) (none) (.ref 28) (.none)) } : Obj)) <|
  List.cons (nat_lit 30, ({ cls := .type "tuple", data := .seq #[.str "channel" 245, .str "curve" 246, .str "limit" 247, .str "load" 248, .str "number" 249, .str "phase" 250] } : Obj)) <|
  List.cons (nat_lit 31, ({ cls := .type "dict", data := .dict #[en P "__module__" 227 (.str "stagelamps.patches" 187), en P "__firstlineno__" 231 (.int 16 230), en P "__init__" 244 (.ref 29), en P "__static_attributes__" 251 (.ref 30), en P "__dict__" 253 (.ref 33), en P "__weakref__" 255 (.ref 34), en P "__doc__" 256 (.none)] 4 } : Obj)) <|
  List.cons (nat_lit 32, ({ cls := .type "type", data := .cls { name := "Dimmer", bases := [.type "object"], mro := [.ref 32, .type "object"], ns := 31, qualname := "Dimmer" }, slots := #[none, none, some (.str "Dimmer" 220), some (.str "Dimmer" 228), some (.builtin "object.__new__"), some (.bool true)] } : Obj)) <|
  List.cons (nat_lit 33, ({ cls := .type "getset_descriptor", data := .fields #[.str "__dict__" 252, .ref 32, .builtin "function.__dict__", .builtin "function.__dict__#set"] } : Obj)) <|
  List.cons (nat_lit 34, ({ cls := .type "getset_descriptor", data := .fields #[.str "__weakref__" 254, .ref 32, .builtin "ExceptionGroup.__weakref__", .none] } : Obj)) <|
  List.cons (nat_lit 37, ({ cls := .type "tuple", data := .seq #[.type "ValueError"] } : Obj)) <|
  List.cons (nat_lit 44, ({ cls := .type "tuple", data := .seq #[] } : Obj)) <|
  List.cons (nat_lit 46, ({ cls := .type "tuple", data := .seq #[.str "self" 274, .str "line" 275, .str "why" 276] } : Obj)) <|
  List.cons (nat_lit 47, ({ cls := .type "tuple", data := .seq #[] } : Obj)) <|
  List.cons (nat_lit 49, ({ cls := .type "code", data := .fields #[.str "__init__" 271, .str "TextFault.__init__" 272, .str "/claim/cut.py" 273, .int 27 0, .int 3 0, .int 0 0, .int 0 0, .int 3 0, .ref 44, .bool true, .int 181 0, .ref 45, .none, .ref 46, .ref 47, .ref 48, .int 277 0, .int 27 0, .str "/claim/cut.py" 278] } : Obj)) <|
  List.cons (nat_lit 50, ({ cls := .type "function", data := .func (PySem.W.fnOf "__init__" "TextFault.__init__" (defArgs s_TextFault_init) (defBody s_TextFault_init) (defScope s_TextFault_init) .none .none (.none) (.str "stagelamps.patches" 187) (none) (.ref 49) (.none)) } : Obj)) <|
  List.cons (nat_lit 51, ({ cls := .type "tuple", data := .seq #[.str "line" 280, .str "why" 281] } : Obj)) <|
  List.cons (nat_lit 52, ({ cls := .type "dict", data := .dict #[en P "__module__" 266 (.str "stagelamps.patches" 187), en P "__firstlineno__" 270 (.int 25 269), en P "__init__" 279 (.ref 50), en P "__static_attributes__" 282 (.ref 51), en P "__weakref__" 284 (.ref 54), en P "__doc__" 285 (.none)] 3 } : Obj)) <|
  List.cons (nat_lit 53, ({ cls := .type "type", data := .cls { name := "TextFault", bases := [.type "ValueError"], mro := [.ref 53, .type "ValueError", .type "Exception", .type "BaseException", .type "object"], ns := 52, qualname := "TextFault" }, slots := #[some (.ref 37), none, some (.str "TextFault" 259), some (.str "TextFault" 267), some (.builtin "ValueError.__new__"), some (.bool true)] } : Obj)) <|
  List.cons (nat_lit 54, ({ cls := .type "getset_descriptor", data := .fields #[.str "__weakref__" 283, .ref 53, .builtin "ExceptionGroup.__weakref__", .none] } : Obj)) <|
  List.cons (nat_lit 57, ({ cls := .type "tuple", data := .seq #[] } : Obj)) <|
  List.cons (nat_lit 60, ({ cls := .type "code", data := .fields #[.str "bytes_of" 288, .str "bytes_of" 289, .str "/claim/cut.py" 290, .int 30 0, .int 1 0, .int 0 0, .int 0 0, .int 3 0, .ref 57, .bool true, .int 181 0, .ref 58, .none, .none, .none, .ref 59, .int 291 0, .int 30 0, .str "/claim/cut.py" 292] } : Obj)) <|
  List.cons (nat_lit 61, ({ cls := .type "function", data := .func (PySem.W.fnOf "bytes_of" "bytes_of" (defArgs s_bytes_of) (defBody s_bytes_of) (defScope s_bytes_of) .none .none (.none) (.str "stagelamps.patches" 187) (none) (.ref 60) (.none)) } : Obj)) <|
  List.cons (nat_lit 62, ({ cls := .type "tuple", data := .seq #[] } : Obj)) <|
  List.cons (nat_lit 64, ({ cls := .type "tuple", data := .seq #[.str "text" 297, .str "lines" 298, .str "start" 299, .str "place" 300, .str "sign" 301] } : Obj)) <|
  List.cons (nat_lit 65, ({ cls := .type "tuple", data := .seq #[] } : Obj)) <|
  List.cons (nat_lit 67, ({ cls := .type "code", data := .fields #[.str "lines_of" 294, .str "lines_of" 295, .str "/claim/cut.py" 296, .int 32 0, .int 1 0, .int 0 0, .int 0 0, .int 3 0, .ref 62, .bool true, .int 181 0, .ref 63, .none, .ref 64, .ref 65, .ref 66, .int 302 0, .int 32 0, .str "/claim/cut.py" 303] } : Obj)) <|
  List.cons (nat_lit 68, ({ cls := .type "function", data := .func (PySem.W.fnOf "lines_of" "lines_of" (defArgs s_lines_of) (defBody s_lines_of) (defScope s_lines_of) .none .none (.none) (.str "stagelamps.patches" 187) (none) (.ref 67) (.none)) } : Obj)) <|
  List.cons (nat_lit 69, ({ cls := .type "tuple", data := .seq #[] } : Obj)) <|
  List.cons (nat_lit 71, ({ cls := .type "tuple", data := .seq #[.str "signs" 308, .str "fields" 309, .str "sign" 310] } : Obj)) <|
  List.cons (nat_lit 72, ({ cls := .type "tuple", data := .seq #[] } : Obj)) <|
  List.cons (nat_lit 74, ({ cls := .type "code", data := .fields #[.str "fields_of" 305, .str "fields_of" 306, .str "/claim/cut.py" 307, .int 42 0, .int 1 0, .int 0 0, .int 0 0, .int 3 0, .ref 69, .bool true, .int 181 0, .ref 70, .none, .ref 71, .ref 72, .ref 73, .int 311 0, .int 42 0, .str "/claim/cut.py" 312] } : Obj)) <|
  List.cons (nat_lit 75, ({ cls := .type "function", data := .func (PySem.W.fnOf "fields_of" "fields_of" (defArgs s_fields_of) (defBody s_fields_of) (defScope s_fields_of) .none .none (.none) (.str "stagelamps.patches" 187) (none) (.ref 74) (.none)) } : Obj)) <|
  List.cons (nat_lit 76, ({ cls := .type "tuple", data := .seq #[] } : Obj)) <|
  List.cons (nat_lit 79, ({ cls := .type "code", data := .fields #[.str "is_decimal" 314, .str "is_decimal" 315, .str "/claim/cut.py" 316, .int 50 0, .int 1 0, .int 0 0, .int 0 0, .int 3 0, .ref 76, .bool true, .int 181 0, .ref 77, .none, .none, .none, .ref 78, .int 317 0, .int 50 0, .str "/claim/cut.py" 318] } : Obj)) <|
  List.cons (nat_lit 80, ({ cls := .type "function", data := .func (PySem.W.fnOf "is_decimal" "is_decimal" (defArgs s_is_decimal) (defBody s_is_decimal) (defScope s_is_decimal) .none .none (.none) (.str "stagelamps.patches" 187) (none) (.ref 79) (.none)) } : Obj)) <|
  List.cons (nat_lit 81, ({ cls := .type "tuple", data := .seq #[] } : Obj)) <|
  List.cons (nat_lit 83, ({ cls := .type "tuple", data := .seq #[.str "field" 323, .str "least" 324, .str "most" 325, .str "value" 326, .str "sign" 327] } : Obj)) <|
  List.cons (nat_lit 84, ({ cls := .type "tuple", data := .seq #[] } : Obj)) <|
  List.cons (nat_lit 86, ({ cls := .type "code", data := .fields #[.str "read_number" 320, .str "read_number" 321, .str "/claim/cut.py" 322, .int 56 0, .int 3 0, .int 0 0, .int 0 0, .int 3 0, .ref 81, .bool true, .int 181 0, .ref 82, .none, .ref 83, .ref 84, .ref 85, .int 328 0, .int 56 0, .str "/claim/cut.py" 329] } : Obj)) <|
  List.cons (nat_lit 87, ({ cls := .type "function", data := .func (PySem.W.fnOf "read_number" "read_number" (defArgs s_read_number) (defBody s_read_number) (defScope s_read_number) .none .none (.none) (.str "stagelamps.patches" 187) (none) (.ref 86) (.none)) } : Obj)) <|
  List.cons (nat_lit 88, ({ cls := .type "tuple", data := .seq #[] } : Obj)) <|
  List.cons (nat_lit 90, ({ cls := .type "tuple", data := .seq #[.str "field" 334, .str "curve" 335] } : Obj)) <|
  List.cons (nat_lit 91, ({ cls := .type "tuple", data := .seq #[] } : Obj)) <|
  List.cons (nat_lit 93, ({ cls := .type "code", data := .fields #[.str "read_curve" 331, .str "read_curve" 332, .str "/claim/cut.py" 333, .int 65 0, .int 1 0, .int 0 0, .int 0 0, .int 3 0, .ref 88, .bool true, .int 181 0, .ref 89, .none, .ref 90, .ref 91, .ref 92, .int 336 0, .int 65 0, .str "/claim/cut.py" 337] } : Obj)) <|
  List.cons (nat_lit 94, ({ cls := .type "function", data := .func (PySem.W.fnOf "read_curve" "read_curve" (defArgs s_read_curve) (defBody s_read_curve) (defScope s_read_curve) .none .none (.none) (.str "stagelamps.patches" 187) (none) (.ref 93) (.none)) } : Obj)) <|
  List.cons (nat_lit 95, ({ cls := .type "tuple", data := .seq #[] } : Obj)) <|
  List.cons (nat_lit 97, ({ cls := .type "tuple", data := .seq #[.str "line" 342, .str "fields" 343, .str "number" 344, .str "channel" 345, .str "curve" 346, .str "limit" 347, .str "load" 348, .str "phase" 349] } : Obj)) <|
  List.cons (nat_lit 98, ({ cls := .type "tuple", data := .seq #[] } : Obj)) <|
  List.cons (nat_lit 100, ({ cls := .type "code", data := .fields #[.str "read_dimmer" 339, .str "read_dimmer" 340, .str "/claim/cut.py" 341, .int 70 0, .int 1 0, .int 0 0, .int 0 0, .int 3 0, .ref 95, .bool true, .int 181 0, .ref 96, .none, .ref 97, .ref 98, .ref 99, .int 350 0, .int 70 0, .str "/claim/cut.py" 351] } : Obj)) <|
  List.cons (nat_lit 101, ({ cls := .type "function", data := .func (PySem.W.fnOf "read_dimmer" "read_dimmer" (defArgs s_read_dimmer) (defBody s_read_dimmer) (defScope s_read_dimmer) .none .none (.none) (.str "stagelamps.patches" 187) (none) (.ref 100) (.none)) } : Obj)) <|
  List.cons (nat_lit 102, ({ cls := .type "tuple", data := .seq #[] } : Obj)) <|
  List.cons (nat_lit 104, ({ cls := .type "tuple", data := .seq #[.str "text" 356, .str "dimmers" 357, .str "before" 358, .str "place" 359, .str "line" 360, .str "dimmer" 361] } : Obj)) <|
  List.cons (nat_lit 105, ({ cls := .type "tuple", data := .seq #[] } : Obj)) <|
  List.cons (nat_lit 107, ({ cls := .type "code", data := .fields #[.str "read_patch" 353, .str "read_patch" 354, .str "/claim/cut.py" 355, .int 85 0, .int 1 0, .int 0 0, .int 0 0, .int 3 0, .ref 102, .bool true, .int 181 0, .ref 103, .none, .ref 104, .ref 105, .ref 106, .int 362 0, .int 85 0, .str "/claim/cut.py" 363] } : Obj)) <|
  List.cons (nat_lit 108, ({ cls := .type "function", data := .func (PySem.W.fnOf "read_patch" "read_patch" (defArgs s_read_patch) (defBody s_read_patch) (defScope s_read_patch) .none .none (.none) (.str "stagelamps.patches" 187) (none) (.ref 107) (.none)) } : Obj)) <|
  List.cons (nat_lit 109, ({ cls := .type "tuple", data := .seq #[] } : Obj)) <|
  List.cons (nat_lit 111, ({ cls := .type "tuple", data := .seq #[.str "dimmer" 368, .str "fields" 369] } : Obj)) <|
  List.cons (nat_lit 112, ({ cls := .type "tuple", data := .seq #[] } : Obj)) <|
  List.cons (nat_lit 114, ({ cls := .type "code", data := .fields #[.str "write_dimmer" 365, .str "write_dimmer" 366, .str "/claim/cut.py" 367, .int 97 0, .int 1 0, .int 0 0, .int 0 0, .int 3 0, .ref 109, .bool true, .int 181 0, .ref 110, .none, .ref 111, .ref 112, .ref 113, .int 370 0, .int 97 0, .str "/claim/cut.py" 371] } : Obj)) <|
  List.cons (nat_lit 115, ({ cls := .type "function", data := .func (PySem.W.fnOf "write_dimmer" "write_dimmer" (defArgs s_write_dimmer) (defBody s_write_dimmer) (defScope s_write_dimmer) .none .none (.none) (.str "stagelamps.patches" 187) (none) (.ref 114) (.none)) } : Obj)) <|
  List.cons (nat_lit 116, ({ cls := .type "tuple", data := .seq #[] } : Obj)) <|
  List.cons (nat_lit 118, ({ cls := .type "tuple", data := .seq #[.str "dimmers" 376, .str "text" 377, .str "dimmer" 378] } : Obj)) <|
  List.cons (nat_lit 119, ({ cls := .type "tuple", data := .seq #[] } : Obj)) <|
  List.cons (nat_lit 121, ({ cls := .type "code", data := .fields #[.str "write_patch" 373, .str "write_patch" 374, .str "/claim/cut.py" 375, .int 100 0, .int 1 0, .int 0 0, .int 0 0, .int 3 0, .ref 116, .bool true, .int 181 0, .ref 117, .none, .ref 118, .ref 119, .ref 120, .int 379 0, .int 100 0, .str "/claim/cut.py" 380] } : Obj)) <|
  List.cons (nat_lit 122, ({ cls := .type "function", data := .func (PySem.W.fnOf "write_patch" "write_patch" (defArgs s_write_patch) (defBody s_write_patch) (defScope s_write_patch) .none .none (.none) (.str "stagelamps.patches" 187) (none) (.ref 121) (.none)) } : Obj)) <|
  List.cons (nat_lit 130, ({ cls := .type "tuple", data := .seq #[] } : Obj)) <|
  List.cons (nat_lit 132, ({ cls := .type "tuple", data := .seq #[.str "self" 399, .str "sums" 400, .str "phases" 401] } : Obj)) <|
  List.cons (nat_lit 133, ({ cls := .type "tuple", data := .seq #[] } : Obj)) <|
  List.cons (nat_lit 135, ({ cls := .type "code", data := .fields #[.str "__init__" 396, .str "Dealing.__init__" 397, .str "/claim/cut.py" 398, .int 108 0, .int 3 0, .int 0 0, .int 0 0, .int 3 0, .ref 130, .bool true, .int 181 0, .ref 131, .none, .ref 132, .ref 133, .ref 134, .int 402 0, .int 108 0, .str "/claim/cut.py" 403] } : Obj)) <|
  List.cons (nat_lit 136, ({ cls := .type "function", data := .func (PySem.W.fnOf "__init__" "Dealing.__init__" (defArgs s_Dealing_init) (defBody s_Dealing_init) (defScope s_Dealing_init) .none .none (.none) (.str "stagelamps.dealings" 382) (none) (.ref 135) (.none)) } : Obj)) <|
  List.cons (nat_lit 137, ({ cls := .type "tuple", data := .seq #[] } : Obj)) <|
  List.cons (nat_lit 139, ({ cls := .type "tuple", data := .seq #[.str "self" 408, .str "load" 409, .str "phase" 410, .str "sums" 411] } : Obj)) <|
  List.cons (nat_lit 140, ({ cls := .type "tuple", data := .seq #[] } : Obj)) <|
  List.cons (nat_lit 142, ({ cls := .type "code", data := .fields #[.str "with_load" 405, .str "Dealing.with_load" 406, .str "/claim/cut.py" 407, .int 112 0, .int 3 0, .int 0 0, .int 0 0, .int 3 0, .ref 137, .bool true, .int 181 0, .ref 138, .none, .ref 139, .ref 140, .ref 141, .int 412 0, .int 112 0, .str "/claim/cut.py" 413] } : Obj)) <|
  List.cons (nat_lit 143, ({ cls := .type "function", data := .func (PySem.W.fnOf "with_load" "Dealing.with_load" (defArgs s_Dealing_with_load) (defBody s_Dealing_with_load) (defScope s_Dealing_with_load) .none .none (.none) (.str "stagelamps.dealings" 382) (none) (.ref 142) (.none)) } : Obj)) <|
  List.cons (nat_lit 144, ({ cls := .type "tuple", data := .seq #[] } : Obj)) <|
  List.cons (nat_lit 146, ({ cls := .type "tuple", data := .seq #[.str "self" 418, .str "phase" 419] } : Obj)) <|
  List.cons (nat_lit 147, ({ cls := .type "tuple", data := .seq #[] } : Obj)) <|
  List.cons (nat_lit 149, ({ cls := .type "code", data := .fields #[.str "is_needless" 415, .str "Dealing.is_needless" 416, .str "/claim/cut.py" 417, .int 117 0, .int 2 0, .int 0 0, .int 0 0, .int 3 0, .ref 144, .bool true, .int 181 0, .ref 145, .none, .ref 146, .ref 147, .ref 148, .int 420 0, .int 117 0, .str "/claim/cut.py" 421] } : Obj)) <|
  List.cons (nat_lit 150, ({ cls := .type "function", data := .func (PySem.W.fnOf "is_needless" "Dealing.is_needless" (defArgs s_Dealing_is_needless) (defBody s_Dealing_is_needless) (defScope s_Dealing_is_needless) .none .none (.none) (.str "stagelamps.dealings" 382) (none) (.ref 149) (.none)) } : Obj)) <|
  List.cons (nat_lit 151, ({ cls := .type "tuple", data := .seq #[.str "phases" 423, .str "sums" 424] } : Obj)) <|
  List.cons (nat_lit 152, ({ cls := .type "dict", data := .dict #[en P "__module__" 391 (.str "stagelamps.dealings" 382), en P "__firstlineno__" 395 (.int 106 394), en P "__init__" 404 (.ref 136), en P "with_load" 414 (.ref 143), en P "is_needless" 422 (.ref 150), en P "__static_attributes__" 425 (.ref 151), en P "__dict__" 427 (.ref 154), en P "__weakref__" 429 (.ref 155), en P "__doc__" 430 (.none)] 4 } : Obj)) <|
  List.cons (nat_lit 153, ({ cls := .type "type", data := .cls { name := "Dealing", bases := [.type "object"], mro := [.ref 153, .type "object"], ns := 152, qualname := "Dealing" }, slots := #[none, none, some (.str "Dealing" 384), some (.str "Dealing" 392), some (.builtin "object.__new__"), some (.bool true)] } : Obj)) <|
  List.cons (nat_lit 154, ({ cls := .type "getset_descriptor", data := .fields #[.str "__dict__" 426, .ref 153, .builtin "function.__dict__", .builtin "function.__dict__#set"] } : Obj)) <|
  List.cons (nat_lit 155, ({ cls := .type "getset_descriptor", data := .fields #[.str "__weakref__" 428, .ref 153, .builtin "ExceptionGroup.__weakref__", .none] } : Obj)) <|
  List.cons (nat_lit 158, ({ cls := .type "tuple", data := .seq #[] } : Obj)) <|
  List.cons (nat_lit 160, ({ cls := .type "tuple", data := .seq #[] } : Obj)) <|
  List.cons (nat_lit 161, ({ cls := .type "tuple", data := .seq #[] } : Obj)) <|
  List.cons (nat_lit 163, ({ cls := .type "code", data := .fields #[.str "no_loads_dealt" 433, .str "no_loads_dealt" 434, .str "/claim/cut.py" 435, .int 119 0, .int 0 0, .int 0 0, .int 0 0, .int 3 0, .ref 158, .bool true, .int 181 0, .ref 159, .none, .ref 160, .ref 161, .ref 162, .int 436 0, .int 119 0, .str "/claim/cut.py" 437] } : Obj)) <|
  List.cons (nat_lit 164, ({ cls := .type "function", data := .func (PySem.W.fnOf "no_loads_dealt" "no_loads_dealt" (defArgs s_no_loads_dealt) (defBody s_no_loads_dealt) (defScope s_no_loads_dealt) .none .none (.none) (.str "stagelamps.dealings" 382) (none) (.ref 163) (.none)) } : Obj)) <|
  List.cons (nat_lit 165, ({ cls := .type "tuple", data := .seq #[] } : Obj)) <|
  List.cons (nat_lit 167, ({ cls := .type "tuple", data := .seq #[.str "dealing" 442, .str "load" 443, .str "following" 444, .str "phase" 445] } : Obj)) <|
  List.cons (nat_lit 168, ({ cls := .type "tuple", data := .seq #[] } : Obj)) <|
  List.cons (nat_lit 170, ({ cls := .type "code", data := .fields #[.str "next_dealings" 439, .str "next_dealings" 440, .str "/claim/cut.py" 441, .int 121 0, .int 2 0, .int 0 0, .int 0 0, .int 3 0, .ref 165, .bool true, .int 181 0, .ref 166, .none, .ref 167, .ref 168, .ref 169, .int 446 0, .int 121 0, .str "/claim/cut.py" 447] } : Obj)) <|
  List.cons (nat_lit 171, ({ cls := .type "function", data := .func (PySem.W.fnOf "next_dealings" "next_dealings" (defArgs s_next_dealings) (defBody s_next_dealings) (defScope s_next_dealings) .none .none (.none) (.str "stagelamps.dealings" 382) (none) (.ref 170) (.none)) } : Obj)) <|
  List.cons (nat_lit 172, ({ cls := .type "tuple", data := .seq #[] } : Obj)) <|
  List.cons (nat_lit 174, ({ cls := .type "tuple", data := .seq #[.str "loads" 452, .str "third" 453] } : Obj)) <|
  List.cons (nat_lit 175, ({ cls := .type "tuple", data := .seq #[] } : Obj)) <|
  List.cons (nat_lit 177, ({ cls := .type "code", data := .fields #[.str "least_thinkable" 449, .str "least_thinkable" 450, .str "/claim/cut.py" 451, .int 127 0, .int 1 0, .int 0 0, .int 0 0, .int 3 0, .ref 172, .bool true, .int 181 0, .ref 173, .none, .ref 174, .ref 175, .ref 176, .int 454 0, .int 127 0, .str "/claim/cut.py" 455] } : Obj)) <|
  List.cons (nat_lit 178, ({ cls := .type "function", data := .func (PySem.W.fnOf "least_thinkable" "least_thinkable" (defArgs s_least_thinkable) (defBody s_least_thinkable) (defScope s_least_thinkable) .none .none (.none) (.str "stagelamps.dealings" 382) (none) (.ref 177) (.none)) } : Obj)) <|
  List.cons (nat_lit 179, ({ cls := .type "tuple", data := .seq #[] } : Obj)) <|
  List.cons (nat_lit 181, ({ cls := .type "tuple", data := .seq #[.str "loads" 460, .str "enough" 461, .str "best" 462, .str "bound" 463, .str "waiting" 464, .str "dealing" 465, .str "dealt" 466] } : Obj)) <|
  List.cons (nat_lit 182, ({ cls := .type "tuple", data := .seq #[] } : Obj)) <|
  List.cons (nat_lit 184, ({ cls := .type "code", data := .fields #[.str "deal_evenly" 457, .str "deal_evenly" 458, .str "/claim/cut.py" 459, .int 130 0, .int 1 0, .int 0 0, .int 0 0, .int 3 0, .ref 179, .bool true, .int 181 0, .ref 180, .none, .ref 181, .ref 182, .ref 183, .int 467 0, .int 130 0, .str "/claim/cut.py" 468] } : Obj)) <|
  List.cons (nat_lit 185, ({ cls := .type "function", data := .func (PySem.W.fnOf "deal_evenly" "deal_evenly" (defArgs s_deal_evenly) (defBody s_deal_evenly) (defScope s_deal_evenly) .none .none (.none) (.str "stagelamps.dealings" 382) (none) (.ref 184) (.none)) } : Obj)) <|
  List.cons (nat_lit 186, ({ cls := .type "tuple", data := .seq #[] } : Obj)) <|
  List.cons (nat_lit 188, ({ cls := .type "tuple", data := .seq #[.str "dividend" 481, .str "divisor" 482] } : Obj)) <|
  List.cons (nat_lit 189, ({ cls := .type "tuple", data := .seq #[] } : Obj)) <|
  List.cons (nat_lit 191, ({ cls := .type "code", data := .fields #[.str "nearest" 478, .str "nearest" 479, .str "/claim/cut.py" 480, .int 150 0, .int 2 0, .int 0 0, .int 0 0, .int 3 0, .ref 186, .bool true, .int 181 0, .ref 187, .none, .ref 188, .ref 189, .ref 190, .int 483 0, .int 150 0, .str "/claim/cut.py" 484] } : Obj)) <|
  List.cons (nat_lit 192, ({ cls := .type "function", data := .func (PySem.W.fnOf "nearest" "nearest" (defArgs s_nearest) (defBody s_nearest) (defScope s_nearest) .none .none (.none) (.str "stagelamps.levels" 470) (none) (.ref 191) (.none)) } : Obj)) <|
  List.cons (nat_lit 193, ({ cls := .type "tuple", data := .seq #[] } : Obj)) <|
  List.cons (nat_lit 195, ({ cls := .type "tuple", data := .seq #[.str "curve" 489, .str "level" 490] } : Obj)) <|
  List.cons (nat_lit 196, ({ cls := .type "tuple", data := .seq #[] } : Obj)) <|
  List.cons (nat_lit 198, ({ cls := .type "code", data := .fields #[.str "curve_at" 486, .str "curve_at" 487, .str "/claim/cut.py" 488, .int 152 0, .int 2 0, .int 0 0, .int 0 0, .int 3 0, .ref 193, .bool true, .int 181 0, .ref 194, .none, .ref 195, .ref 196, .ref 197, .int 491 0, .int 152 0, .str "/claim/cut.py" 492] } : Obj)) <|
  List.cons (nat_lit 199, ({ cls := .type "function", data := .func (PySem.W.fnOf "curve_at" "curve_at" (defArgs s_curve_at) (defBody s_curve_at) (defScope s_curve_at) .none .none (.none) (.str "stagelamps.levels" 470) (none) (.ref 198) (.none)) } : Obj)) <|
  List.cons (nat_lit 200, ({ cls := .type "tuple", data := .seq #[] } : Obj)) <|
  List.cons (nat_lit 202, ({ cls := .type "tuple", data := .seq #[.str "dimmer" 497, .str "level" 498] } : Obj)) <|
  List.cons (nat_lit 203, ({ cls := .type "tuple", data := .seq #[] } : Obj)) <|
  List.cons (nat_lit 205, ({ cls := .type "code", data := .fields #[.str "given_by" 494, .str "given_by" 495, .str "/claim/cut.py" 496, .int 160 0, .int 2 0, .int 0 0, .int 0 0, .int 3 0, .ref 200, .bool true, .int 181 0, .ref 201, .none, .ref 202, .ref 203, .ref 204, .int 499 0, .int 160 0, .str "/claim/cut.py" 500] } : Obj)) <|
  List.cons (nat_lit 206, ({ cls := .type "function", data := .func (PySem.W.fnOf "given_by" "given_by" (defArgs s_given_by) (defBody s_given_by) (defScope s_given_by) .none .none (.none) (.str "stagelamps.levels" 470) (none) (.ref 205) (.none)) } : Obj)) <|
  List.cons (nat_lit 207, ({ cls := .type "tuple", data := .seq #[] } : Obj)) <|
  List.cons (nat_lit 209, ({ cls := .type "tuple", data := .seq #[.str "dimmer" 505, .str "much" 506, .str "level" 507] } : Obj)) <|
  List.cons (nat_lit 210, ({ cls := .type "tuple", data := .seq #[] } : Obj)) <|
  List.cons (nat_lit 212, ({ cls := .type "code", data := .fields #[.str "least_level" 502, .str "least_level" 503, .str "/claim/cut.py" 504, .int 162 0, .int 2 0, .int 0 0, .int 0 0, .int 3 0, .ref 207, .bool true, .int 181 0, .ref 208, .none, .ref 209, .ref 210, .ref 211, .int 508 0, .int 162 0, .str "/claim/cut.py" 509] } : Obj)) <|
  List.cons (nat_lit 213, ({ cls := .type "function", data := .func (PySem.W.fnOf "least_level" "least_level" (defArgs s_least_level) (defBody s_least_level) (defScope s_least_level) .none .none (.none) (.str "stagelamps.levels" 470) (none) (.ref 212) (.none)) } : Obj)) <|
  List.cons (nat_lit 221, ({ cls := .type "tuple", data := .seq #[] } : Obj)) <|
  List.cons (nat_lit 223, ({ cls := .type "tuple", data := .seq #[.str "self" 528, .str "calls" 529] } : Obj)) <|
  List.cons (nat_lit 224, ({ cls := .type "tuple", data := .seq #[] } : Obj)) <|
  List.cons (nat_lit 226, ({ cls := .type "code", data := .fields #[.str "__init__" 525, .str "CallReader.__init__" 526, .str "/claim/cut.py" 527, .int 170 0, .int 2 0, .int 0 0, .int 0 0, .int 3 0, .ref 221, .bool true, .int 181 0, .ref 222, .none, .ref 223, .ref 224, .ref 225, .int 530 0, .int 170 0, .str "/claim/cut.py" 531] } : Obj)) <|
  List.cons (nat_lit 227, ({ cls := .type "function", data := .func (PySem.W.fnOf "__init__" "CallReader.__init__" (defArgs s_CallReader_init) (defBody s_CallReader_init) (defScope s_CallReader_init) .none .none (.none) (.str "stagelamps.reader" 511) (none) (.ref 226) (.none)) } : Obj)) <|
  List.cons (nat_lit 228, ({ cls := .type "tuple", data := .seq #[] } : Obj)) <|
  List.cons (nat_lit 230, ({ cls := .type "tuple", data := .seq #[.str "self" 536] } : Obj)) <|
  List.cons (nat_lit 231, ({ cls := .type "tuple", data := .seq #[] } : Obj)) <|
  List.cons (nat_lit 233, ({ cls := .type "code", data := .fields #[.str "at_end" 533, .str "CallReader.at_end" 534, .str "/claim/cut.py" 535, .int 174 0, .int 1 0, .int 0 0, .int 0 0, .int 3 0, .ref 228, .bool true, .int 181 0, .ref 229, .none, .ref 230, .ref 231, .ref 232, .int 537 0, .int 174 0, .str "/claim/cut.py" 538] } : Obj)) <|
  List.cons (nat_lit 234, ({ cls := .type "function", data := .func (PySem.W.fnOf "at_end" "CallReader.at_end" (defArgs s_CallReader_at_end) (defBody s_CallReader_at_end) (defScope s_CallReader_at_end) .none .none (.none) (.str "stagelamps.reader" 511) (none) (.ref 233) (.none)) } : Obj)) <|
  List.cons (nat_lit 235, ({ cls := .type "tuple", data := .seq #[] } : Obj)) <|
  List.cons (nat_lit 237, ({ cls := .type "tuple", data := .seq #[.str "self" 543, .str "number" 544] } : Obj)) <|
  List.cons (nat_lit 238, ({ cls := .type "tuple", data := .seq #[] } : Obj)) <|
  List.cons (nat_lit 240, ({ cls := .type "code", data := .fields #[.str "take_number" 540, .str "CallReader.take_number" 541, .str "/claim/cut.py" 542, .int 177 0, .int 1 0, .int 0 0, .int 0 0, .int 3 0, .ref 235, .bool true, .int 181 0, .ref 236, .none, .ref 237, .ref 238, .ref 239, .int 545 0, .int 177 0, .str "/claim/cut.py" 546] } : Obj)) <|
  List.cons (nat_lit 241, ({ cls := .type "function", data := .func (PySem.W.fnOf "take_number" "CallReader.take_number" (defArgs s_CallReader_take_number) (defBody s_CallReader_take_number) (defScope s_CallReader_take_number) .none .none (.none) (.str "stagelamps.reader" 511) (none) (.ref 240) (.none)) } : Obj)) <|
  List.cons (nat_lit 242, ({ cls := .type "tuple", data := .seq #[] } : Obj)) <|
  List.cons (nat_lit 244, ({ cls := .type "tuple", data := .seq #[.str "self" 551, .str "length" 552, .str "row" 553] } : Obj)) <|
  List.cons (nat_lit 245, ({ cls := .type "tuple", data := .seq #[] } : Obj)) <|
  List.cons (nat_lit 247, ({ cls := .type "code", data := .fields #[.str "take_row" 548, .str "CallReader.take_row" 549, .str "/claim/cut.py" 550, .int 182 0, .int 1 0, .int 0 0, .int 0 0, .int 3 0, .ref 242, .bool true, .int 181 0, .ref 243, .none, .ref 244, .ref 245, .ref 246, .int 554 0, .int 182 0, .str "/claim/cut.py" 555] } : Obj)) <|
  List.cons (nat_lit 248, ({ cls := .type "function", data := .func (PySem.W.fnOf "take_row" "CallReader.take_row" (defArgs s_CallReader_take_row) (defBody s_CallReader_take_row) (defScope s_CallReader_take_row) .none .none (.none) (.str "stagelamps.reader" 511) (none) (.ref 247) (.none)) } : Obj)) <|
  List.cons (nat_lit 249, ({ cls := .type "tuple", data := .seq #[.str "calls" 557, .str "place" 558] } : Obj)) <|
  List.cons (nat_lit 250, ({ cls := .type "dict", data := .dict #[en P "__module__" 520 (.str "stagelamps.reader" 511), en P "__firstlineno__" 524 (.int 168 523), en P "__init__" 532 (.ref 227), en P "at_end" 539 (.ref 234), en P "take_number" 547 (.ref 241), en P "take_row" 556 (.ref 248), en P "__static_attributes__" 559 (.ref 249), en P "__dict__" 561 (.ref 252), en P "__weakref__" 563 (.ref 253), en P "__doc__" 564 (.none)] 4 } : Obj)) <|
  List.cons (nat_lit 251, ({ cls := .type "type", data := .cls { name := "CallReader", bases := [.type "object"], mro := [.ref 251, .type "object"], ns := 250, qualname := "CallReader" }, slots := #[none, none, some (.str "CallReader" 513), some (.str "CallReader" 521), some (.builtin "object.__new__"), some (.bool true)] } : Obj)) <|
  List.cons (nat_lit 252, ({ cls := .type "getset_descriptor", data := .fields #[.str "__dict__" 560, .ref 251, .builtin "function.__dict__", .builtin "function.__dict__#set"] } : Obj)) <|
  List.cons (nat_lit 253, ({ cls := .type "getset_descriptor", data := .fields #[.str "__weakref__" 562, .ref 251, .builtin "ExceptionGroup.__weakref__", .none] } : Obj)) <|
  List.cons (nat_lit 256, ({ cls := .type "tuple", data := .seq #[.type "ValueError"] } : Obj)) <|
  List.cons (nat_lit 263, ({ cls := .type "tuple", data := .seq #[] } : Obj)) <|
  List.cons (nat_lit 264, ({ cls := .type "dict", data := .dict #[en P "__module__" 615 (.str "stagelamps.desk" 567), en P "__firstlineno__" 619 (.int 205 618), en P "__static_attributes__" 620 (.ref 263), en P "__weakref__" 622 (.ref 266), en P "__doc__" 623 (.none)] 3 } : Obj)) <|
  List.cons (nat_lit 265, ({ cls := .type "type", data := .cls { name := "UnknownCall", bases := [.type "ValueError"], mro := [.ref 265, .type "ValueError", .type "Exception", .type "BaseException", .type "object"], ns := 264, qualname := "UnknownCall" }, slots := #[some (.ref 256), none, some (.str "UnknownCall" 608), some (.str "UnknownCall" 616), some (.builtin "ValueError.__new__"), some (.bool true)] } : Obj)) <|
  List.cons (nat_lit 266, ({ cls := .type "getset_descriptor", data := .fields #[.str "__weakref__" 621, .ref 265, .builtin "ExceptionGroup.__weakref__", .none] } : Obj)) <|
  List.cons (nat_lit 269, ({ cls := .type "tuple", data := .seq #[] } : Obj)) <|
  List.cons (nat_lit 271, ({ cls := .type "tuple", data := .seq #[.str "number" 629] } : Obj)) <|
  List.cons (nat_lit 272, ({ cls := .type "tuple", data := .seq #[] } : Obj)) <|
  List.cons (nat_lit 274, ({ cls := .type "code", data := .fields #[.str "is_channel" 626, .str "is_channel" 627, .str "/claim/cut.py" 628, .int 207 0, .int 1 0, .int 0 0, .int 0 0, .int 3 0, .ref 269, .bool true, .int 181 0, .ref 270, .none, .ref 271, .ref 272, .ref 273, .int 630 0, .int 207 0, .str "/claim/cut.py" 631] } : Obj)) <|
  List.cons (nat_lit 275, ({ cls := .type "function", data := .func (PySem.W.fnOf "is_channel" "is_channel" (defArgs s_is_channel) (defBody s_is_channel) (defScope s_is_channel) .none .none (.none) (.str "stagelamps.desk" 567) (none) (.ref 274) (.none)) } : Obj)) <|
  List.cons (nat_lit 276, ({ cls := .type "tuple", data := .seq #[] } : Obj)) <|
  List.cons (nat_lit 278, ({ cls := .type "tuple", data := .seq #[.str "number" 636] } : Obj)) <|
  List.cons (nat_lit 279, ({ cls := .type "tuple", data := .seq #[] } : Obj)) <|
  List.cons (nat_lit 281, ({ cls := .type "code", data := .fields #[.str "is_phase" 633, .str "is_phase" 634, .str "/claim/cut.py" 635, .int 209 0, .int 1 0, .int 0 0, .int 0 0, .int 3 0, .ref 276, .bool true, .int 181 0, .ref 277, .none, .ref 278, .ref 279, .ref 280, .int 637 0, .int 209 0, .str "/claim/cut.py" 638] } : Obj)) <|
  List.cons (nat_lit 282, ({ cls := .type "function", data := .func (PySem.W.fnOf "is_phase" "is_phase" (defArgs s_is_phase) (defBody s_is_phase) (defScope s_is_phase) .none .none (.none) (.str "stagelamps.desk" 567) (none) (.ref 281) (.none)) } : Obj)) <|
  List.cons (nat_lit 283, ({ cls := .type "tuple", data := .seq #[] } : Obj)) <|
  List.cons (nat_lit 286, ({ cls := .type "code", data := .fields #[.str "can_be_dealt" 640, .str "can_be_dealt" 641, .str "/claim/cut.py" 642, .int 211 0, .int 1 0, .int 0 0, .int 0 0, .int 3 0, .ref 283, .bool true, .int 181 0, .ref 284, .none, .none, .none, .ref 285, .int 643 0, .int 211 0, .str "/claim/cut.py" 644] } : Obj)) <|
  List.cons (nat_lit 287, ({ cls := .type "function", data := .func (PySem.W.fnOf "can_be_dealt" "can_be_dealt" (defArgs s_can_be_dealt) (defBody s_can_be_dealt) (defScope s_can_be_dealt) .none .none (.none) (.str "stagelamps.desk" 567) (none) (.ref 286) (.none)) } : Obj)) <|
  List.cons (nat_lit 295, ({ cls := .type "tuple", data := .seq #[] } : Obj)) <|
  List.cons (nat_lit 297, ({ cls := .type "tuple", data := .seq #[.str "self" 661] } : Obj)) <|
  List.cons (nat_lit 298, ({ cls := .type "tuple", data := .seq #[] } : Obj)) <|
  List.cons (nat_lit 300, ({ cls := .type "code", data := .fields #[.str "__init__" 658, .str "Desk.__init__" 659, .str "/claim/cut.py" 660, .int 215 0, .int 1 0, .int 0 0, .int 0 0, .int 3 0, .ref 295, .bool true, .int 181 0, .ref 296, .none, .ref 297, .ref 298, .ref 299, .int 662 0, .int 215 0, .str "/claim/cut.py" 663] } : Obj)) <|
  List.cons (nat_lit 301, ({ cls := .type "function", data := .func (PySem.W.fnOf "__init__" "Desk.__init__" (defArgs s_Desk_init) (defBody s_Desk_init) (defScope s_Desk_init) .none .none (.none) (.str "stagelamps.desk" 567) (none) (.ref 300) (.none)) } : Obj)) <|
  List.cons (nat_lit 302, ({ cls := .type "tuple", data := .seq #[] } : Obj)) <|
  List.cons (nat_lit 304, ({ cls := .type "tuple", data := .seq #[.str "self" 668, .str "channel" 669] } : Obj)) <|
  List.cons (nat_lit 305, ({ cls := .type "tuple", data := .seq #[] } : Obj)) <|
  List.cons (nat_lit 307, ({ cls := .type "code", data := .fields #[.str "level_of" 665, .str "Desk.level_of" 666, .str "/claim/cut.py" 667, .int 219 0, .int 2 0, .int 0 0, .int 0 0, .int 3 0, .ref 302, .bool true, .int 181 0, .ref 303, .none, .ref 304, .ref 305, .ref 306, .int 670 0, .int 219 0, .str "/claim/cut.py" 671] } : Obj)) <|
  List.cons (nat_lit 308, ({ cls := .type "function", data := .func (PySem.W.fnOf "level_of" "Desk.level_of" (defArgs s_Desk_level_of) (defBody s_Desk_level_of) (defScope s_Desk_level_of) .none .none (.none) (.str "stagelamps.desk" 567) (none) (.ref 307) (.none)) } : Obj)) <|
  List.cons (nat_lit 309, ({ cls := .type "tuple", data := .seq #[] } : Obj)) <|
  List.cons (nat_lit 311, ({ cls := .type "tuple", data := .seq #[.str "self" 676, .str "dimmer" 677] } : Obj)) <|
  List.cons (nat_lit 312, ({ cls := .type "tuple", data := .seq #[] } : Obj)) <|
  List.cons (nat_lit 314, ({ cls := .type "code", data := .fields #[.str "given_now" 673, .str "Desk.given_now" 674, .str "/claim/cut.py" 675, .int 222 0, .int 2 0, .int 0 0, .int 0 0, .int 3 0, .ref 309, .bool true, .int 181 0, .ref 310, .none, .ref 311, .ref 312, .ref 313, .int 678 0, .int 222 0, .str "/claim/cut.py" 679] } : Obj)) <|
  List.cons (nat_lit 315, ({ cls := .type "function", data := .func (PySem.W.fnOf "given_now" "Desk.given_now" (defArgs s_Desk_given_now) (defBody s_Desk_given_now) (defScope s_Desk_given_now) .none .none (.none) (.str "stagelamps.desk" 567) (none) (.ref 314) (.none)) } : Obj)) <|
  List.cons (nat_lit 316, ({ cls := .type "tuple", data := .seq #[] } : Obj)) <|
  List.cons (nat_lit 318, ({ cls := .type "tuple", data := .seq #[.str "self" 684, .str "number" 685, .str "dimmer" 686] } : Obj)) <|
  List.cons (nat_lit 319, ({ cls := .type "tuple", data := .seq #[] } : Obj)) <|
  List.cons (nat_lit 321, ({ cls := .type "code", data := .fields #[.str "find_dimmer" 681, .str "Desk.find_dimmer" 682, .str "/claim/cut.py" 683, .int 225 0, .int 2 0, .int 0 0, .int 0 0, .int 3 0, .ref 316, .bool true, .int 181 0, .ref 317, .none, .ref 318, .ref 319, .ref 320, .int 687 0, .int 225 0, .str "/claim/cut.py" 688] } : Obj)) <|
  List.cons (nat_lit 322, ({ cls := .type "function", data := .func (PySem.W.fnOf "find_dimmer" "Desk.find_dimmer" (defArgs s_Desk_find_dimmer) (defBody s_Desk_find_dimmer) (defScope s_Desk_find_dimmer) .none .none (.none) (.str "stagelamps.desk" 567) (none) (.ref 321) (.none)) } : Obj)) <|
  List.cons (nat_lit 323, ({ cls := .type "tuple", data := .seq #[] } : Obj)) <|
  List.cons (nat_lit 325, ({ cls := .type "tuple", data := .seq #[.str "self" 693, .str "text" 694, .str "dimmers" 695, .str "fault" 696] } : Obj)) <|
  List.cons (nat_lit 326, ({ cls := .type "tuple", data := .seq #[] } : Obj)) <|
  List.cons (nat_lit 328, ({ cls := .type "code", data := .fields #[.str "answer_patch" 690, .str "Desk.answer_patch" 691, .str "/claim/cut.py" 692, .int 231 0, .int 2 0, .int 0 0, .int 0 0, .int 3 0, .ref 323, .bool true, .int 181 0, .ref 324, .none, .ref 325, .ref 326, .ref 327, .int 697 0, .int 231 0, .str "/claim/cut.py" 698] } : Obj)) <|
  List.cons (nat_lit 329, ({ cls := .type "function", data := .func (PySem.W.fnOf "answer_patch" "Desk.answer_patch" (defArgs s_Desk_answer_patch) (defBody s_Desk_answer_patch) (defScope s_Desk_answer_patch) .none .none (.none) (.str "stagelamps.desk" 567) (none) (.ref 328) (.none)) } : Obj)) <|
  List.cons (nat_lit 330, ({ cls := .type "tuple", data := .seq #[] } : Obj)) <|
  List.cons (nat_lit 332, ({ cls := .type "tuple", data := .seq #[.str "self" 703, .str "text" 704] } : Obj)) <|
  List.cons (nat_lit 333, ({ cls := .type "tuple", data := .seq #[] } : Obj)) <|
  List.cons (nat_lit 335, ({ cls := .type "code", data := .fields #[.str "answer_print" 700, .str "Desk.answer_print" 701, .str "/claim/cut.py" 702, .int 241 0, .int 1 0, .int 0 0, .int 0 0, .int 3 0, .ref 330, .bool true, .int 181 0, .ref 331, .none, .ref 332, .ref 333, .ref 334, .int 705 0, .int 241 0, .str "/claim/cut.py" 706] } : Obj)) <|
  List.cons (nat_lit 336, ({ cls := .type "function", data := .func (PySem.W.fnOf "answer_print" "Desk.answer_print" (defArgs s_Desk_answer_print) (defBody s_Desk_answer_print) (defScope s_Desk_answer_print) .none .none (.none) (.str "stagelamps.desk" 567) (none) (.ref 335) (.none)) } : Obj)) <|
  List.cons (nat_lit 337, ({ cls := .type "tuple", data := .seq #[] } : Obj)) <|
  List.cons (nat_lit 339, ({ cls := .type "tuple", data := .seq #[.str "self" 711, .str "channel" 712, .str "level" 713] } : Obj)) <|
  List.cons (nat_lit 340, ({ cls := .type "tuple", data := .seq #[] } : Obj)) <|
  List.cons (nat_lit 342, ({ cls := .type "code", data := .fields #[.str "answer_set" 708, .str "Desk.answer_set" 709, .str "/claim/cut.py" 710, .int 245 0, .int 3 0, .int 0 0, .int 0 0, .int 3 0, .ref 337, .bool true, .int 181 0, .ref 338, .none, .ref 339, .ref 340, .ref 341, .int 714 0, .int 245 0, .str "/claim/cut.py" 715] } : Obj)) <|
  List.cons (nat_lit 343, ({ cls := .type "function", data := .func (PySem.W.fnOf "answer_set" "Desk.answer_set" (defArgs s_Desk_answer_set) (defBody s_Desk_answer_set) (defScope s_Desk_answer_set) .none .none (.none) (.str "stagelamps.desk" 567) (none) (.ref 342) (.none)) } : Obj)) <|
  List.cons (nat_lit 344, ({ cls := .type "tuple", data := .seq #[] } : Obj)) <|
  List.cons (nat_lit 346, ({ cls := .type "tuple", data := .seq #[.str "self" 720, .str "channel" 721] } : Obj)) <|
  List.cons (nat_lit 347, ({ cls := .type "tuple", data := .seq #[] } : Obj)) <|
  List.cons (nat_lit 349, ({ cls := .type "code", data := .fields #[.str "answer_level" 717, .str "Desk.answer_level" 718, .str "/claim/cut.py" 719, .int 251 0, .int 2 0, .int 0 0, .int 0 0, .int 3 0, .ref 344, .bool true, .int 181 0, .ref 345, .none, .ref 346, .ref 347, .ref 348, .int 722 0, .int 251 0, .str "/claim/cut.py" 723] } : Obj)) <|
  List.cons (nat_lit 350, ({ cls := .type "function", data := .func (PySem.W.fnOf "answer_level" "Desk.answer_level" (defArgs s_Desk_answer_level) (defBody s_Desk_answer_level) (defScope s_Desk_answer_level) .none .none (.none) (.str "stagelamps.desk" 567) (none) (.ref 349) (.none)) } : Obj)) <|
  List.cons (nat_lit 351, ({ cls := .type "tuple", data := .seq #[] } : Obj)) <|
  List.cons (nat_lit 353, ({ cls := .type "tuple", data := .seq #[.str "self" 728, .str "number" 729, .str "dimmer" 730] } : Obj)) <|
  List.cons (nat_lit 354, ({ cls := .type "tuple", data := .seq #[] } : Obj)) <|
  List.cons (nat_lit 356, ({ cls := .type "code", data := .fields #[.str "answer_out" 725, .str "Desk.answer_out" 726, .str "/claim/cut.py" 727, .int 256 0, .int 2 0, .int 0 0, .int 0 0, .int 3 0, .ref 351, .bool true, .int 181 0, .ref 352, .none, .ref 353, .ref 354, .ref 355, .int 731 0, .int 256 0, .str "/claim/cut.py" 732] } : Obj)) <|
  List.cons (nat_lit 357, ({ cls := .type "function", data := .func (PySem.W.fnOf "answer_out" "Desk.answer_out" (defArgs s_Desk_answer_out) (defBody s_Desk_answer_out) (defScope s_Desk_answer_out) .none .none (.none) (.str "stagelamps.desk" 567) (none) (.ref 356) (.none)) } : Obj)) <|
  List.cons (nat_lit 358, ({ cls := .type "tuple", data := .seq #[] } : Obj)) <|
  List.cons (nat_lit 361, ({ cls := .type "code", data := .fields #[.str "answer_outs" 734, .str "Desk.answer_outs" 735, .str "/claim/cut.py" 736, .int 262 0, .int 1 0, .int 0 0, .int 0 0, .int 3 0, .ref 358, .bool true, .int 181 0, .ref 359, .none, .none, .none, .ref 360, .int 737 0, .int 262 0, .str "/claim/cut.py" 738] } : Obj)) <|
  List.cons (nat_lit 362, ({ cls := .type "function", data := .func (PySem.W.fnOf "answer_outs" "Desk.answer_outs" (defArgs s_Desk_answer_outs) (defBody s_Desk_answer_outs) (defScope s_Desk_answer_outs) .none .none (.none) (.str "stagelamps.desk" 567) (none) (.ref 361) (.none)) } : Obj)) <|
  List.cons (nat_lit 363, ({ cls := .type "tuple", data := .seq #[] } : Obj)) <|
  List.cons (nat_lit 366, ({ cls := .type "code", data := .fields #[.str "answer_channel" 740, .str "Desk.answer_channel" 741, .str "/claim/cut.py" 742, .int 266 0, .int 2 0, .int 0 0, .int 0 0, .int 3 0, .ref 363, .bool true, .int 181 0, .ref 364, .none, .none, .none, .ref 365, .int 743 0, .int 266 0, .str "/claim/cut.py" 744] } : Obj)) <|
  List.cons (nat_lit 367, ({ cls := .type "function", data := .func (PySem.W.fnOf "answer_channel" "Desk.answer_channel" (defArgs s_Desk_answer_channel) (defBody s_Desk_answer_channel) (defScope s_Desk_answer_channel) .none .none (.none) (.str "stagelamps.desk" 567) (none) (.ref 366) (.none)) } : Obj)) <|
  List.cons (nat_lit 368, ({ cls := .type "tuple", data := .seq #[] } : Obj)) <|
  List.cons (nat_lit 370, ({ cls := .type "tuple", data := .seq #[.str "self" 749, .str "number" 750, .str "much" 751, .str "dimmer" 752, .str "level" 753] } : Obj)) <|
  List.cons (nat_lit 371, ({ cls := .type "tuple", data := .seq #[] } : Obj)) <|
  List.cons (nat_lit 373, ({ cls := .type "code", data := .fields #[.str "answer_needs" 746, .str "Desk.answer_needs" 747, .str "/claim/cut.py" 748, .int 272 0, .int 3 0, .int 0 0, .int 0 0, .int 3 0, .ref 368, .bool true, .int 181 0, .ref 369, .none, .ref 370, .ref 371, .ref 372, .int 754 0, .int 272 0, .str "/claim/cut.py" 755] } : Obj)) <|
  List.cons (nat_lit 374, ({ cls := .type "function", data := .func (PySem.W.fnOf "answer_needs" "Desk.answer_needs" (defArgs s_Desk_answer_needs) (defBody s_Desk_answer_needs) (defScope s_Desk_answer_needs) .none .none (.none) (.str "stagelamps.desk" 567) (none) (.ref 373) (.none)) } : Obj)) <|
  List.cons (nat_lit 375, ({ cls := .type "tuple", data := .seq #[] } : Obj)) <|
  List.cons (nat_lit 378, ({ cls := .type "code", data := .fields #[.str "answer_load" 757, .str "Desk.answer_load" 758, .str "/claim/cut.py" 759, .int 281 0, .int 2 0, .int 0 0, .int 0 0, .int 3 0, .ref 375, .bool true, .int 181 0, .ref 376, .none, .none, .none, .ref 377, .int 760 0, .int 281 0, .str "/claim/cut.py" 761] } : Obj)) <|
  List.cons (nat_lit 379, ({ cls := .type "function", data := .func (PySem.W.fnOf "answer_load" "Desk.answer_load" (defArgs s_Desk_answer_load) (defBody s_Desk_answer_load) (defScope s_Desk_answer_load) .none .none (.none) (.str "stagelamps.desk" 567) (none) (.ref 378) (.none)) } : Obj)) <|
  List.cons (nat_lit 380, ({ cls := .type "tuple", data := .seq #[] } : Obj)) <|
  List.cons (nat_lit 382, ({ cls := .type "tuple", data := .seq #[.str "self" 766, .str "loads" 767, .str "dealing" 768] } : Obj)) <|
  List.cons (nat_lit 383, ({ cls := .type "tuple", data := .seq #[] } : Obj)) <|
  List.cons (nat_lit 385, ({ cls := .type "code", data := .fields #[.str "answer_evenly" 763, .str "Desk.answer_evenly" 764, .str "/claim/cut.py" 765, .int 286 0, .int 2 0, .int 0 0, .int 0 0, .int 3 0, .ref 380, .bool true, .int 181 0, .ref 381, .none, .ref 382, .ref 383, .ref 384, .int 769 0, .int 286 0, .str "/claim/cut.py" 770] } : Obj)) <|
  List.cons (nat_lit 386, ({ cls := .type "function", data := .func (PySem.W.fnOf "answer_evenly" "Desk.answer_evenly" (defArgs s_Desk_answer_evenly) (defBody s_Desk_answer_evenly) (defScope s_Desk_answer_evenly) .none .none (.none) (.str "stagelamps.desk" 567) (none) (.ref 385) (.none)) } : Obj)) <|
  List.cons (nat_lit 387, ({ cls := .type "tuple", data := .seq #[.str "dimmers" 772, .str "levels" 773] } : Obj)) <|
  List.cons (nat_lit 388, ({ cls := .type "dict", data := .dict #[en P "__module__" 653 (.str "stagelamps.desk" 567), en P "__firstlineno__" 657 (.int 213 656), en P "__init__" 664 (.ref 301), en P "level_of" 672 (.ref 308), en P "given_now" 680 (.ref 315), en P "find_dimmer" 689 (.ref 322), en P "answer_patch" 699 (.ref 329), en P "answer_print" 707 (.ref 336), en P "answer_set" 716 (.ref 343), en P "answer_level" 724 (.ref 350), en P "answer_out" 733 (.ref 357), en P "answer_outs" 739 (.ref 362), en P "answer_channel" 745 (.ref 367), en P "answer_needs" 756 (.ref 374), en P "answer_load" 762 (.ref 379), en P "answer_evenly" 771 (.ref 386), en P "__static_attributes__" 774 (.ref 387), en P "__dict__" 776 (.ref 390), en P "__weakref__" 778 (.ref 391), en P "__doc__" 779 (.none)] 4 } : Obj)) <|
  List.cons (nat_lit 389, ({ cls := .type "type", data := .cls { name := "Desk", bases := [.type "object"], mro := [.ref 389, .type "object"], ns := 388, qualname := "Desk" }, slots := #[none, none, some (.str "Desk" 646), some (.str "Desk" 654), some (.builtin "object.__new__"), some (.bool true)] } : Obj)) <|
  List.cons (nat_lit 390, ({ cls := .type "getset_descriptor", data := .fields #[.str "__dict__" 775, .ref 389, .builtin "function.__dict__", .builtin "function.__dict__#set"] } : Obj)) <|
  List.cons (nat_lit 391, ({ cls := .type "getset_descriptor", data := .fields #[.str "__weakref__" 777, .ref 389, .builtin "ExceptionGroup.__weakref__", .none] } : Obj)) <|
  List.cons (nat_lit 394, ({ cls := .type "tuple", data := .seq #[] } : Obj)) <|
  List.cons (nat_lit 396, ({ cls := .type "tuple", data := .seq #[.str "desk" 785, .str "reader" 786, .str "call" 787, .str "channel" 788, .str "level" 789, .str "number" 790, .str "much" 791] } : Obj)) <|
  List.cons (nat_lit 397, ({ cls := .type "tuple", data := .seq #[] } : Obj)) <|
  List.cons (nat_lit 399, ({ cls := .type "code", data := .fields #[.str "answer_next" 782, .str "answer_next" 783, .str "/claim/cut.py" 784, .int 291 0, .int 2 0, .int 0 0, .int 0 0, .int 3 0, .ref 394, .bool true, .int 181 0, .ref 395, .none, .ref 396, .ref 397, .ref 398, .int 792 0, .int 291 0, .str "/claim/cut.py" 793] } : Obj)) <|
  List.cons (nat_lit 400, ({ cls := .type "function", data := .func (PySem.W.fnOf "answer_next" "answer_next" (defArgs s_answer_next) (defBody s_answer_next) (defScope s_answer_next) .none .none (.none) (.str "stagelamps.desk" 567) (none) (.ref 399) (.none)) } : Obj)) <|
  List.cons (nat_lit 401, ({ cls := .type "tuple", data := .seq #[] } : Obj)) <|
  List.cons (nat_lit 403, ({ cls := .type "tuple", data := .seq #[.str "calls" 798, .str "desk" 799, .str "reader" 800, .str "told" 801, .str "answer" 802] } : Obj)) <|
  List.cons (nat_lit 404, ({ cls := .type "tuple", data := .seq #[] } : Obj)) <|
  List.cons (nat_lit 406, ({ cls := .type "code", data := .fields #[.str "answers" 795, .str "answers" 796, .str "/claim/cut.py" 797, .int 318 0, .int 1 0, .int 0 0, .int 0 0, .int 3 0, .ref 401, .bool true, .int 181 0, .ref 402, .none, .ref 403, .ref 404, .ref 405, .int 803 0, .int 318 0, .str "/claim/cut.py" 804] } : Obj)) <|
  List.cons (nat_lit 407, ({ cls := .type "function", data := .func (PySem.W.fnOf "answers" "answers" (defArgs s_answers) (defBody s_answers) (defScope s_answers) .none .none (.none) (.str "stagelamps.desk" 567) (none) (.ref 406) (.none)) } : Obj)) <|
  []
def ads : List Addr := [2, 3, 15, 23, 25, 26, 28, 29, 30, 31, 32, 33, 34, 37, 44, 46, 47, 49, 50, 51, 52, 53, 54, 57, 60, 61, 62, 64, 65, 67, 68, 69, 71, 72, 74, 75, 76, 79, 80, 81, 83, 84, 86, 87, 88, 90, 91, 93, 94, 95, 97, 98, 100, 101, 102, 104, 105, 107, 108, 109, 111, 112, 114, 115, 116, 118, 119, 121, 122, 130, 132, 133, 135, 136, 137, 139, 140, 142, 143, 144, 146, 147, 149, 150, 151, 152, 153, 154, 155, 158, 160, 161, 163, 164, 165, 167, 168, 170, 171, 172, 174, 175, 177, 178, 179, 181, 182, 184, 185, 186, 188, 189, 191, 192, 193, 195, 196, 198, 199, 200, 202, 203, 205, 206, 207, 209, 210, 212, 213, 221, 223, 224, 226, 227, 228, 230, 231, 233, 234, 235, 237, 238, 240, 241, 242, 244, 245, 247, 248, 249, 250, 251, 252, 253, 256, 263, 264, 265, 266, 269, 271, 272, 274, 275, 276, 278, 279, 281, 282, 283, 286, 287, 295, 297, 298, 300, 301, 302, 304, 305, 307, 308, 309, 311, 312, 314, 315, 316, 318, 319, 321, 322, 323, 325, 326, 328, 329, 330, 332, 333, 335, 336, 337, 339, 340, 342, 343, 344, 346, 347, 349, 350, 351, 353, 354, 356, 357, 358, 361, 362, 363, 366, 367, 368, 370, 371, 373, 374, 375, 378, 379, 380, 382, 383, 385, 386, 387, 388, 389, 390, 391, 394, 396, 397, 399, 400, 401, 403, 404, 406, 407]
theorem ads_eq : ∀ P, ads = (objs P).map (·.1) := fun _ => by kernel_rfl
/-! the top's run, by the kernel: the looks at its end; its objects, part by part -/
set_option maxHeartbeats 0 in
theorem ran : ∀ w, (openEnds treeTable PySem.Challenge.pw_stagelamps_s01_answers w 6068).map (fun s => openSeen view lose (importedModules PySem.Challenge.pw_stagelamps_s01_answers.main.body) (fun s => xlAt view [] s && recOk [] s) true s) = some (openGood view lose) := fun w => by
  unfold openEnds fencedOpening topFrom
  rw [PySem.W.Fast.te10274390034422433532, PySem.W.Fast.te14364793385576792824, PySem.W.Fast.te14082659384304107361, PySem.W.Fast.te14289696077712309145, PySem.W.Fast.te4187177175401517315]
  kernel_rfl
set_option maxHeartbeats 0 in
theorem saw0 : ∀ w, (openEnds treeTable PySem.Challenge.pw_stagelamps_s01_answers w 6068).map (fun s => ((ads.drop 0).take 63).map s.heap.get?) = some ((((objs w.params).drop 0).take 63).map fun p => some p.2) := fun w => by
  unfold openEnds fencedOpening topFrom
  rw [PySem.W.Fast.te10274390034422433532, PySem.W.Fast.te14364793385576792824, PySem.W.Fast.te14082659384304107361, PySem.W.Fast.te14289696077712309145]
  kernel_rfl
set_option maxHeartbeats 0 in
theorem saw1 : ∀ w, (openEnds treeTable PySem.Challenge.pw_stagelamps_s01_answers w 6068).map (fun s => ((ads.drop 63).take 63).map s.heap.get?) = some ((((objs w.params).drop 63).take 63).map fun p => some p.2) := fun w => by
  unfold openEnds fencedOpening topFrom
  rw [PySem.W.Fast.te10274390034422433532, PySem.W.Fast.te14364793385576792824, PySem.W.Fast.te14082659384304107361, PySem.W.Fast.te14289696077712309145]
  kernel_rfl
set_option maxHeartbeats 0 in
theorem saw2 : ∀ w, (openEnds treeTable PySem.Challenge.pw_stagelamps_s01_answers w 6068).map (fun s => ((ads.drop 126).take 63).map s.heap.get?) = some ((((objs w.params).drop 126).take 63).map fun p => some p.2) := fun w => by
  unfold openEnds fencedOpening topFrom
  rw [PySem.W.Fast.te10274390034422433532, PySem.W.Fast.te14364793385576792824, PySem.W.Fast.te14082659384304107361, PySem.W.Fast.te14289696077712309145]
  kernel_rfl
set_option maxHeartbeats 0 in
theorem saw3 : ∀ w, (openEnds treeTable PySem.Challenge.pw_stagelamps_s01_answers w 6068).map (fun s => ((ads.drop 189).take 63).map s.heap.get?) = some ((((objs w.params).drop 189).take 63).map fun p => some p.2) := fun w => by
  unfold openEnds fencedOpening topFrom
  rw [PySem.W.Fast.te10274390034422433532, PySem.W.Fast.te14364793385576792824, PySem.W.Fast.te14082659384304107361, PySem.W.Fast.te14289696077712309145]
  kernel_rfl
theorem parts4 {α : Type} (l : List α) (h : l.length ≤ 252) : (l.drop 0).take 63 ++ ((l.drop 63).take 63 ++ ((l.drop 126).take 63 ++ (l.drop 189).take 63)) = l := by
  have e : (l.drop 189).take 63 = l.drop 189 := List.take_of_length_le (by rw [List.length_drop]; omega)
  have f : ∀ n, (l.drop n).take 63 ++ l.drop (n + 63) = l.drop n := fun n => by rw [← List.drop_drop, List.take_append_drop]
  rw [e, f 126, f 63, f 0]; rfl
theorem left : LeftO PySem.Challenge.pw_stagelamps_s01_answers view lose (fun s => xlAt view [] s && recOk [] s) (kHook objs ads ads_eq).obs (kHook objs ads ads_eq).val 6068 := fun w => by
  obtain ⟨s, e, h⟩ := Option.map_eq_some_iff.mp (ran w)
  have h0 := saw0 w
  have h1 := saw1 w
  have h2 := saw2 w
  have h3 := saw3 w
  rw [e] at h0 h1 h2 h3
  have h0 := Option.some.inj h0
  have h1 := Option.some.inj h1
  have h2 := Option.some.inj h2
  have h3 := Option.some.inj h3
  have la : ads.length ≤ 252 := by decide +kernel
  have lo : (objs w.params).length ≤ 252 := by rw [← List.length_map (f := fun p : Addr × Obj => p.1), ← ads_eq]; exact la
  have q : ads.map s.heap.get? = (objs w.params).map fun p => some p.2 := by
    conv => lhs; rw [← parts4 ads la]
    conv => rhs; rw [← parts4 (objs w.params) lo]
    simp only [List.map_append]
    dsimp only at h0 h1 h2 h3
    rw [h0, h1, h2, h3]
  rw [e]
  show some (openSeen view lose (importedModules PySem.Challenge.pw_stagelamps_s01_answers.main.body) (fun s => xlAt view [] s && recOk [] s) true s, ads.map s.heap.get?) = some (openGood view lose, (objs w.params).map fun p => some p.2)
  rw [h, q]
end Sl
end
section
namespace Mx
open Sg
theorem split_ne (c : UInt8) : ∀ l : Bytes, split c l ≠ []
  | [] => by simp [split]
  | x :: r => by
    unfold split
    cases h : split c r with
    | nil => simp
    | cons w l => simp only; split <;> simp
theorem split_cons {c x : UInt8} {r w : Bytes} {l : List Bytes} (h : split c r = w :: l) :
    split c (x :: r) = if x = c then [] :: w :: l else (x :: w) :: l := by
  rw [split, h]
theorem split_snoc (c x : UInt8) : ∀ {l : Bytes} {ws : List Bytes} {w : Bytes}, split c l = ws ++ [w] →
    split c (l ++ [x]) = if x = c then ws ++ [w, []] else ws ++ [w ++ [x]]
  | [], ws, w, h => by
    have h : [[]] = ws ++ [w] := h
    have e : ws = [] ∧ w = [] := by
      cases ws with
      | nil => simp at h; exact ⟨rfl, h⟩
      | cons a t => simp at h
    obtain ⟨rfl, rfl⟩ := e
    show split c [x] = _
    rw [split_cons (w := []) (l := []) rfl]
    split <;> simp
  | y :: r, ws, w, h => by
    cases e : split c r with
    | nil => exact absurd e (split_ne c r)
    | cons v l =>
      rw [split_cons e] at h
      show split c (y :: (r ++ [x])) = _
      -- the rest
      have hne : (v :: l) ≠ [] := by simp
      obtain ⟨vs, v', hv⟩ : ∃ vs v', v :: l = vs ++ [v'] := ⟨(v :: l).dropLast, (v :: l).getLast hne, (List.dropLast_concat_getLast hne).symm⟩
      have ih := split_snoc c x (l := r) (ws := vs) (w := v') (by rw [e, hv])
      by_cases hy : y = c
      · rw [if_pos hy] at h
        have h2 : ws ++ [w] = ([] :: vs) ++ [v'] := by rw [← h, hv]; rfl
        obtain ⟨hws, hw⟩ := List.append_inj' h2 rfl
        have hw : w = v' := by simpa using hw
        subst hws hw
        by_cases hx : x = c
        · rw [if_pos hx] at ih ⊢
          obtain ⟨a, b, hab⟩ : ∃ a b, vs ++ [w, []] = a :: b := by cases vs <;> simp
          rw [hab] at ih
          rw [split_cons ih, if_pos hy, ← hab]
          rfl
        · rw [if_neg hx] at ih ⊢
          obtain ⟨a, b, hab⟩ : ∃ a b, vs ++ [w ++ [x]] = a :: b := by cases vs <;> simp
          rw [hab] at ih
          rw [split_cons ih, if_pos hy, ← hab]
          rfl
      · rw [if_neg hy] at h
        cases vs with
        | nil =>
          have hv1 : v = v' ∧ l = [] := by simpa using hv
          obtain ⟨rfl, rfl⟩ := hv1
          have h2 : ws = [] ∧ w = y :: v := by
            cases ws with
            | nil => simp at h; exact ⟨rfl, h.symm⟩
            | cons a t => simp at h
          obtain ⟨rfl, rfl⟩ := h2
          by_cases hx : x = c
          · rw [if_pos hx] at ih ⊢
            rw [split_cons (w := v) (l := [[]]) ih, if_neg hy]; rfl
          · rw [if_neg hx] at ih ⊢
            rw [split_cons (w := v ++ [x]) (l := []) ih, if_neg hy]; rfl
        | cons u us =>
          have hv1 : v = u ∧ l = us ++ [v'] := by simpa using hv
          obtain ⟨rfl, rfl⟩ := hv1
          have h2 : ws ++ [w] = ((y :: v) :: us) ++ [v'] := by rw [← h]; rfl
          obtain ⟨hws, hw⟩ := List.append_inj' h2 rfl
          have hw : w = v' := by simpa using hw
          subst hws hw
          by_cases hx : x = c
          · rw [if_pos hx] at ih ⊢
            rw [split_cons (w := v) (l := us ++ [w, []]) ih, if_neg hy]; rfl
          · rw [if_neg hx] at ih ⊢
            rw [split_cons (w := v) (l := us ++ [w ++ [x]]) ih, if_neg hy]; rfl
/-- what was parted, joined -/
theorem split_join (c : UInt8) : ∀ {l : Bytes} {ws : List Bytes} {w : Bytes}, split c l = ws ++ [w] → l = (ws.flatMap fun v => v ++ [c]) ++ w
  | [], ws, w, h => by
    have h : [[]] = ws ++ [w] := h
    cases ws with
    | nil => simp at h; subst h; rfl
    | cons a t => simp at h
  | y :: r, ws, w, h => by
    cases e : split c r with
    | nil => exact absurd e (split_ne c r)
    | cons v l =>
      rw [split_cons e] at h
      by_cases hy : y = c
      · rw [if_pos hy] at h
        cases ws with
        | nil => simp at h
        | cons a t =>
          have h2 : [] = a ∧ v :: l = t ++ [w] := by simpa using h
          obtain ⟨rfl, h3⟩ := h2
          have ih := split_join c (l := r) (ws := t) (w := w) (by rw [e, h3])
          rw [hy, ih]; simp
      · rw [if_neg hy] at h
        cases ws with
        | nil =>
          have h2 : y :: v = w ∧ l = [] := by simpa using h
          obtain ⟨rfl, rfl⟩ := h2
          have ih := split_join c (l := r) (ws := []) (w := v) (by rw [e]; rfl)
          rw [ih]; rfl
        | cons a t =>
          have h2 : y :: v = a ∧ l = t ++ [w] := by simpa using h
          obtain ⟨rfl, rfl⟩ := h2
          have ih := split_join c (l := r) (ws := v :: t) (w := w) (by rw [e]; rfl)
          rw [ih]; simp
/-- no parted piece has the byte -/
theorem split_free (c : UInt8) : ∀ {l : Bytes}, ∀ w ∈ split c l, c ∉ w
  | [], w, h => by simp [split] at h; subst h; simp
  | y :: r, w, h => by
    cases e : split c r with
    | nil => exact absurd e (split_ne c r)
    | cons v l =>
      have ih := fun w hw => split_free c (l := r) w hw
      rw [e] at ih
      rw [split_cons e] at h
      by_cases hy : y = c
      · rw [if_pos hy] at h
        rcases List.mem_cons.mp h with rfl | h
        · simp
        · exact ih w h
      · rw [if_neg hy] at h
        rcases List.mem_cons.mp h with rfl | h
        · intro m
          rcases List.mem_cons.mp m with q | m
          · exact hy q.symm
          · exact ih v (List.mem_cons_self) m
        · exact ih w (List.mem_cons_of_mem _ h)
theorem split_last (c : UInt8) (l : Bytes) : ∃ ws w, split c l = ws ++ [w] :=
  ⟨(split c l).dropLast, (split c l).getLast (split_ne c l), (List.dropLast_concat_getLast (split_ne c l)).symm⟩
/-! ### numbers -/
def val (b : Bytes) : Nat := b.foldl (fun (n : Nat) (c : UInt8) => 10 * n + (c.toNat - 48)) 0
def decOk (b : Bytes) : Bool := decide (b ≠ [] ∧ b.length ≤ 4) && (!(decide (b.head? = some 48) && decide (1 < b.length)) && b.all isDigit)
theorem digitsIn_enough : ∀ (f n : Nat), n < f → digitsIn (f + 1) n = digitsIn f n
  | 0, n, h => by omega
  | f + 1, n, h => by
    show (if n < 10 then [] else digitsIn (f + 1) (n / 10)) ++ _ = (if n < 10 then [] else digitsIn f (n / 10)) ++ _
    by_cases hn : n < 10
    · rw [if_pos hn, if_pos hn]
    · rw [if_neg hn, if_neg hn, digitsIn_enough f (n / 10) (by omega)]
theorem digitsIn_any {f n : Nat} (h : n < f) : digitsIn f n = decimal n := by
  unfold decimal
  obtain ⟨k, rfl⟩ : ∃ k, f = n + 1 + k := ⟨f - (n + 1), by omega⟩
  clear h
  induction k with
  | zero => rfl
  | succ k ih => rw [show n + 1 + (k + 1) = (n + 1 + k) + 1 by omega, digitsIn_enough _ _ (by omega), ih]
theorem decimal_small {n : Nat} (h : n < 10) : decimal n = [UInt8.ofNat (48 + n)] := by
  unfold decimal digitsIn
  rw [if_pos h, Nat.mod_eq_of_lt h]; rfl
theorem decimal_big {n : Nat} (h : ¬ n < 10) : decimal n = decimal (n / 10) ++ [UInt8.ofNat (48 + n % 10)] := by
  show digitsIn (n + 1) n = _
  show (if n < 10 then [] else digitsIn n (n / 10)) ++ _ = _
  rw [if_neg h, digitsIn_any (by omega)]
theorem decimal_ne (n : Nat) : decimal n ≠ [] := by
  unfold decimal digitsIn
  simp
theorem isDigit_iff {c : UInt8} : isDigit c = true ↔ 48 ≤ c.toNat ∧ c.toNat ≤ 57 := by
  unfold isDigit
  rw [Bool.and_eq_true, decide_eq_true_iff, decide_eq_true_iff, UInt8.le_iff_toNat_le, UInt8.le_iff_toNat_le]
  exact Iff.rfl
theorem ofNat_digit {d : Nat} (h : d < 10) : (UInt8.ofNat (48 + d)).toNat = 48 + d := by
  rw [UInt8.toNat_ofNat']; omega
theorem digit_of {c : UInt8} (h : isDigit c = true) : c = UInt8.ofNat (48 + (c.toNat - 48)) := by
  obtain ⟨h1, h2⟩ := isDigit_iff.mp h
  have e : 48 + (c.toNat - 48) = c.toNat := by omega
  rw [e, UInt8.ofNat_toNat]
theorem decimal_digits : ∀ (f n : Nat), n < f → (decimal n).all isDigit = true
  | 0, n, h => by omega
  | f + 1, n, h => by
    by_cases hn : n < 10
    · rw [decimal_small hn]
      simp only [List.all_cons, List.all_nil, Bool.and_true]
      exact isDigit_iff.mpr (by rw [ofNat_digit hn]; omega)
    · rw [decimal_big hn, List.all_append, decimal_digits f (n / 10) (by omega)]
      simp only [List.all_cons, List.all_nil, Bool.and_true, Bool.true_and]
      exact isDigit_iff.mpr (by rw [ofNat_digit (by omega)]; omega)
theorem val_snoc (b : Bytes) (c : UInt8) : val (b ++ [c]) = 10 * val b + (c.toNat - 48) := by
  unfold val; rw [List.foldl_append]; rfl
theorem decimal_val : ∀ (f n : Nat), n < f → val (decimal n) = n
  | 0, n, h => by omega
  | f + 1, n, h => by
    by_cases hn : n < 10
    · rw [decimal_small hn]
      show 10 * 0 + ((UInt8.ofNat (48 + n)).toNat - 48) = n
      rw [ofNat_digit hn]; omega
    · rw [decimal_big hn, val_snoc, decimal_val f (n / 10) (by omega), ofNat_digit (by omega)]; omega
/-- a row of digits without a needless nought is its number's -/
theorem decimal_of : ∀ (k : Nat) (b : Bytes), b.length = k → b ≠ [] → b.all isDigit = true → ¬ (b.head? = some 48 ∧ 1 < b.length) → decimal (val b) = b ∧ (1 < b.length → 0 < val b)
  | 0, b, hk, hb, _, _ => absurd (List.length_eq_zero_iff.mp hk) hb
  | k + 1, b, hk, hb, ha, hh => by
    obtain ⟨a, c, rfl⟩ : ∃ a c, b = a ++ [c] := ⟨b.dropLast, b.getLast hb, (List.dropLast_concat_getLast hb).symm⟩
    rw [List.all_append, Bool.and_eq_true] at ha
    have hc : isDigit c = true := by simpa using ha.2
    obtain ⟨c1, c2⟩ := isDigit_iff.mp hc
    rw [val_snoc]
    by_cases hn : a = []
    · subst hn
      have e : (10 * val [] + (c.toNat - 48)) = c.toNat - 48 := by show 10 * 0 + _ = _; omega
      rw [e, decimal_small (by omega), ← digit_of hc]
      exact ⟨rfl, fun h => by simp at h⟩
    · have ha0 : ¬ (a.head? = some 48) := fun q => hh ⟨by rw [List.head?_append, q]; rfl, by rw [List.length_append]; have := List.length_pos_iff.mpr hn; simp; omega⟩
      have ih := decimal_of k a (by rw [List.length_append] at hk; simpa using hk) hn ha.1 (fun q => ha0 q.1)
      have pos : 0 < val a := by
        by_cases h1 : 1 < a.length
        · exact ih.2 h1
        · obtain ⟨d, rfl⟩ : ∃ d, a = [d] := by
            cases a with
            | nil => exact absurd rfl hn
            | cons d r =>
              cases r with
              | nil => exact ⟨d, rfl⟩
              | cons _ _ => exact absurd (by simp) h1
          · have h0 := ha0
            have hd : isDigit d = true := by simpa using ha.1
            obtain ⟨d1, d2⟩ := isDigit_iff.mp hd
            have : d.toNat ≠ 48 := fun q => h0 (by
              have e : d = 48 := by
                have := digit_of hd; rw [q] at this; exact this
              rw [e]; rfl)
            show 0 < 10 * 0 + (d.toNat - 48)
            omega
      refine ⟨?_, fun _ => by omega⟩
      rw [decimal_big (by omega), show (10 * val a + (c.toNat - 48)) / 10 = val a by omega, show (10 * val a + (c.toNat - 48)) % 10 = c.toNat - 48 by omega, ih.1, ← digit_of hc]
theorem decimal_head : ∀ (f n : Nat), n < f → ¬ ((decimal n).head? = some 48 ∧ 1 < (decimal n).length)
  | 0, n, h => by omega
  | f + 1, n, h => by
    by_cases hn : n < 10
    · rw [decimal_small hn]; simp
    · rw [decimal_big hn]
      intro ⟨q, _⟩
      have hd := decimal_ne (n / 10)
      obtain ⟨x, r, e⟩ : ∃ x r, decimal (n / 10) = x :: r := by
        cases e : decimal (n / 10) with
        | nil => exact absurd e hd
        | cons x r => exact ⟨x, r, rfl⟩
      rw [e] at q
      have q1 : x = 48 := by simpa using q
      clear q
      have q := q1
      have ih := decimal_head f (n / 10) (by omega)
      rw [e, q] at ih
      have : r = [] := by
        cases r with
        | nil => rfl
        | cons _ _ => exact absurd ⟨rfl, by simp⟩ ih
      subst this
      have v := decimal_val (n / 10 + 1) (n / 10) (by omega)
      rw [e, q] at v
      have v : 10 * 0 + ((48 : UInt8).toNat - 48) = n / 10 := v
      have : n / 10 = 0 := by rw [← v]; rfl
      omega
theorem numberIn_eq (b : Bytes) : numberIn b = if decOk b = true then some (val b) else none := by
  show (if b.length ≤ 4 ∧ b.all isDigit = true ∧ b = decimal (val b) then some (val b) else none) = _
  by_cases h : decOk b = true
  · rw [if_pos h]
    unfold decOk at h
    simp only [Bool.and_eq_true, Bool.not_eq_true', decide_eq_true_iff, Bool.and_eq_false_iff, decide_eq_false_iff_not] at h
    obtain ⟨⟨h1, h2⟩, h3, h4⟩ := h
    refine if_pos ⟨h2, h4, (decimal_of _ b rfl h1 h4 fun q => ?_).1.symm⟩
    rcases h3 with h3 | h3
    · exact h3 q.1
    · exact h3 q.2
  · rw [if_neg h]
    refine if_neg fun ⟨h1, h2, h3⟩ => h ?_
    unfold decOk
    have hne : b ≠ [] := by rw [h3]; exact decimal_ne _
    have hh := decimal_head (val b + 1) (val b) (by omega)
    rw [← h3] at hh
    simp only [Bool.and_eq_true, Bool.not_eq_true', decide_eq_true_iff, Bool.and_eq_false_iff, decide_eq_false_iff_not]
    refine ⟨⟨hne, h1⟩, ?_, h2⟩
    by_cases q : b.head? = some 48
    · exact .inr fun z => hh ⟨q, z⟩
    · exact .inl q
/-- a number within bounds -/
def num (lo hi : Nat) (b : Bytes) : Option Nat := if decOk b = true ∧ lo ≤ val b ∧ val b ≤ hi then some (val b) else none
theorem num_some {lo hi n : Nat} {b : Bytes} : num lo hi b = some n ↔ numberIn b = some n ∧ within lo hi n = true := by
  rw [numberIn_eq]; unfold num within
  rw [Bool.and_eq_true, decide_eq_true_iff, decide_eq_true_iff]
  by_cases h : decOk b = true
  · rw [if_pos h]
    by_cases h2 : lo ≤ val b ∧ val b ≤ hi
    · rw [if_pos ⟨h, h2⟩]
      exact ⟨fun q => by cases q; exact ⟨rfl, h2⟩, fun q => q.1⟩
    · rw [if_neg fun q => h2 q.2]
      exact ⟨fun q => (by cases q), fun q => by cases q.1; exact absurd q.2 h2⟩
  · rw [if_neg h, if_neg fun q => h q.1]
    exact ⟨fun q => (by cases q), fun q => by cases q.1⟩
def kind (b : Bytes) : Option Nat := CURVES.findIdx? fun (x : Bytes) => x == b
/-- a dimmer from its six fields -/
def six (a b c d e f : Bytes) : Option Dimmer := match num 1 128 a, num 1 64 b, kind c, num 1 100 d, num 0 5000 e, num 1 3 f with
  | some n, some c, some k, some l, some w, some p => some ⟨n, c, k, l, w, p⟩
  | _, _, _, _, _, _ => none
theorem kind_le {b : Bytes} {k : Nat} (h : kind b = some k) : k < 4 ∧ CURVES[k]? = some b := by
  unfold kind at h
  obtain ⟨h1, h2, _⟩ := List.findIdx?_eq_some_iff_getElem.mp h
  have l : CURVES.length = 4 := rfl
  refine ⟨by omega, ?_⟩
  rw [List.getElem?_eq_getElem h1]
  exact congrArg some (eq_of_beq h2)
theorem six_eq (a b c d e f : Bytes) : (match numberIn a, numberIn b, CURVES.findIdx? (fun (x : Bytes) => x == c), numberIn d, numberIn e, numberIn f with
    | some n, some c, some k, some l, some w, some p => let d : Dimmer := ⟨n, c, k, l, w, p⟩
      if d.ok = true then some d else none
    | _, _, _, _, _, _ => none) = six a b c d e f := by
  have key : ∀ (lo hi : Nat) (b : Bytes), (numberIn b = none ∧ num lo hi b = none) ∨ ∃ n, numberIn b = some n ∧ ((within lo hi n = true ∧ num lo hi b = some n) ∨ (within lo hi n = false ∧ num lo hi b = none)) := by
    intro lo hi b
    cases h : numberIn b with
    | none =>
      left
      refine ⟨rfl, ?_⟩
      cases q : num lo hi b with
      | none => rfl
      | some m => rw [(num_some.mp q).1] at h; cases h
    | some n =>
      right
      refine ⟨n, rfl, ?_⟩
      cases w : within lo hi n with
      | true => exact .inl ⟨rfl, num_some.mpr ⟨h, w⟩⟩
      | false =>
        refine .inr ⟨rfl, ?_⟩
        cases q : num lo hi b with
        | none => rfl
        | some m =>
          have := num_some.mp q
          rw [h] at this
          obtain ⟨e1, e2⟩ := this
          cases e1
          rw [w] at e2; cases e2
  unfold six
  show _ = (match num 1 128 a, num 1 64 b, CURVES.findIdx? (fun (x : Bytes) => x == c), num 1 100 d, num 0 5000 e, num 1 3 f with
  | some n, some c, some k, some l, some w, some p => some (⟨n, c, k, l, w, p⟩ : Dimmer)
  | _, _, _, _, _, _ => none)
  have kc : ∀ k, CURVES.findIdx? (fun (x : Bytes) => x == c) = some k → decide (k ≤ 3) = true := fun k h => decide_eq_true (by have := (kind_le (b := c) h).1; omega)
  rcases key 1 128 a with ⟨e1, e1'⟩ | ⟨n1, e1, ⟨w1, e1'⟩ | ⟨w1, e1'⟩⟩ <;> rcases key 1 64 b with ⟨e2, e2'⟩ | ⟨n2, e2, ⟨w2, e2'⟩ | ⟨w2, e2'⟩⟩ <;>
  rcases key 1 100 d with ⟨e4, e4'⟩ | ⟨n4, e4, ⟨w4, e4'⟩ | ⟨w4, e4'⟩⟩ <;> rcases key 0 5000 e with ⟨e5, e5'⟩ | ⟨n5, e5, ⟨w5, e5'⟩ | ⟨w5, e5'⟩⟩ <;>
  rcases key 1 3 f with ⟨e6, e6'⟩ | ⟨n6, e6, ⟨w6, e6'⟩ | ⟨w6, e6'⟩⟩ <;> rw [e1, e2, e4, e5, e6, e1', e2', e4', e5', e6'] <;>
  cases hk : CURVES.findIdx? (fun (x : Bytes) => x == c) <;> simp_all [Dimmer.ok, DIMMERS, CHANNELS]
theorem dimmerIn_eq (b : Bytes) : dimmerIn b = (match split 32 b with
  | [n, c, k, l, w, p] => six n c k l w p
  | _ => none) := by
  unfold dimmerIn
  split
  · rename_i e
    rw [e]
    exact six_eq ..
  · rename_i h
    split
    · rename_i e
      exact absurd e (h _ _ _ _ _ _)
    · rfl
end Mx
end
section
namespace Mx
open Sg
theorem lines_step {n : Nat} {had : List Dimmer} {b : Bytes} {r : List Bytes} (h : r ≠ []) : linesFrom n had (b :: r) = match dimmerIn b with
    | none => .error (n, 1)
    | some d => if (had.head?.any fun (x : Dimmer) => decide (d.number ≤ x.number)) = true then .error (n, 2) else linesFrom (n + 1) (d :: had) r := by
  cases r with
  | nil => exact absurd rfl h
  | cons x r =>
    rw [linesFrom]
    · cases dimmerIn b <;> rfl
    all_goals (intro q; cases q)
theorem lines_end {n : Nat} {had : List Dimmer} {w : Bytes} : linesFrom n had [w] = if w = [] then .ok had.reverse else .error (n, 1) := by
  rw [linesFrom]
/-- a patch held: dimmers in their bounds, rising -/
structure Good (ds : Patch) : Prop where
  ok : ∀ d ∈ ds, d.ok = true
  up : ds.Pairwise fun a b => a.number < b.number
theorem Good.nil : Good [] := ⟨fun _ h => by simp at h, .nil⟩
theorem ok_parts {d : Dimmer} (h : d.ok = true) : (1 ≤ d.number ∧ d.number ≤ 128) ∧ (1 ≤ d.channel ∧ d.channel ≤ 64) ∧ d.curve ≤ 3 ∧ (1 ≤ d.limit ∧ d.limit ≤ 100) ∧ d.watts ≤ 5000 ∧ (1 ≤ d.phase ∧ d.phase ≤ 3) := by
  unfold Dimmer.ok within DIMMERS CHANNELS at h
  simp only [Bool.and_eq_true, decide_eq_true_iff] at h
  omega
theorem six_ok {a b c d e f : Bytes} {x : Dimmer} (h : six a b c d e f = some x) : x.ok = true := by
  unfold six at h
  split at h
  · rename_i e1 e2 e3 e4 e5 e6
    cases h
    unfold Dimmer.ok
    have l := (kind_le e3).1
    have w1 : within 1 DIMMERS _ = true := (num_some.mp e1).2
    have w2 : within 1 CHANNELS _ = true := (num_some.mp e2).2
    have w3 : decide (_ ≤ 3) = true := decide_eq_true (Nat.le_of_lt_succ l)
    rw [w1, w2, w3, (num_some.mp e4).2, (num_some.mp e5).2, (num_some.mp e6).2]
    rfl
  · cases h
theorem dimmerIn_ok {b : Bytes} {x : Dimmer} (h : dimmerIn b = some x) : x.ok = true := by
  rw [dimmerIn_eq] at h
  split at h
  · exact six_ok h
  · cases h
/-- had: the last first -/
theorem Good.more {had : List Dimmer} {d : Dimmer} (g : Good had.reverse) (h : d.ok = true) (up : ¬ (had.head?.any fun (x : Dimmer) => decide (d.number ≤ x.number)) = true) : Good (d :: had).reverse := by
  refine ⟨fun x hx => ?_, ?_⟩
  · rw [List.mem_reverse] at hx
    rcases List.mem_cons.mp hx with rfl | hx
    · exact h
    · exact g.ok x (List.mem_reverse.mpr hx)
  · have gp := g.up
    rw [List.pairwise_reverse] at gp ⊢
    refine List.pairwise_cons.mpr ⟨fun y hy => ?_, gp⟩
    cases had with
    | nil => simp at hy
    | cons z r =>
      have hz : ¬ d.number ≤ z.number := by simpa using up
      rcases List.mem_cons.mp hy with rfl | hy
      · omega
      · have := (List.pairwise_cons.mp gp).1 y hy
        omega
theorem up_len : ∀ (ds : List Dimmer) (lo : Nat), (∀ d ∈ ds, lo < d.number ∧ d.number ≤ 128) → ds.Pairwise (fun a b => a.number < b.number) → lo ≤ 128 → ds.length + lo ≤ 128
  | [], lo, _, _, h => by simpa using h
  | d :: r, lo, hb, hp, _ => by
    obtain ⟨h1, h2⟩ := hb d List.mem_cons_self
    obtain ⟨p1, p2⟩ := List.pairwise_cons.mp hp
    have := up_len r d.number (fun x hx => ⟨p1 x hx, (hb x (List.mem_cons_of_mem _ hx)).2⟩) p2 h2
    simp only [List.length_cons]; omega
theorem Good.len {ds : Patch} (g : Good ds) : ds.length ≤ 128 := by
  have := up_len ds 0 (fun d hd => by have := ok_parts (g.ok d hd); omega) g.up (by omega)
  omega
theorem lines_good : ∀ (l : List Bytes) (n : Nat) (had : List Dimmer) (p : Patch), Good had.reverse → linesFrom n had l = .ok p → Good p
  | [], n, had, p, g, h => by rw [linesFrom] at h; cases h; exact g
  | [b], n, had, p, g, h => by
    rw [lines_end] at h
    split at h
    · cases h; exact g
    · cases h
  | b :: x :: r, n, had, p, g, h => by
    rw [lines_step (by simp)] at h
    split at h
    · cases h
    · rename_i d e
      split at h
      · cases h
      · rename_i u
        exact lines_good (x :: r) _ _ p (g.more (dimmerIn_ok e) u) h
theorem dec_len : ∀ (k n : Nat), n < 10 ^ (k + 1) → (decimal n).length ≤ k + 1
  | 0, n, h => by rw [decimal_small (by simpa using h)]; simp
  | k + 1, n, h => by
    by_cases hn : n < 10
    · rw [decimal_small hn]; simp
    · have : n / 10 < 10 ^ (k + 1) := by
        have e : 10 ^ (k + 1 + 1) = 10 * 10 ^ (k + 1) := by rw [Nat.pow_succ 10 (k + 1)]; omega
        omega
      rw [decimal_big hn, List.length_append]
      have := dec_len k (n / 10) this
      simp; omega
theorem curve_len : ∀ k, k ≤ 3 → (CURVES.getD k []).length ≤ 6 := by decide
theorem text_len {d : Dimmer} (h : d.ok = true) : (d.text ++ [10]).length ≤ 32 := by
  obtain ⟨h1, h2, h3, h4, h5, h6⟩ := ok_parts h
  have a1 := dec_len 3 d.number (by omega)
  have a2 := dec_len 3 d.channel (by omega)
  have a3 := curve_len d.curve h3
  have a4 := dec_len 3 d.limit (by omega)
  have a5 := dec_len 3 d.watts (by omega)
  have a6 := dec_len 3 d.phase (by omega)
  unfold Dimmer.text
  simp only [List.length_append, List.length_cons, List.length_nil]
  omega
theorem flat_len : ∀ (ds : Patch), (∀ d ∈ ds, d.ok = true) → (Patch.text ds).length ≤ 32 * ds.length
  | [], _ => by simp [Patch.text]
  | d :: r, h => by
    have ih := flat_len r fun x hx => h x (List.mem_cons_of_mem _ hx)
    have t := text_len (h d List.mem_cons_self)
    unfold Patch.text at ih ⊢
    rw [List.flatMap_cons, List.length_append, List.length_cons]
    omega
theorem Good.text {ds : Patch} (g : Good ds) : (Patch.text ds).length ≤ 4096 := by
  have := flat_len ds g.ok
  have := g.len
  omega
end Mx
end
section
namespace Mx
open Sg
/-! ### loads dealt evenly: the search over prefixes -/
abbrev Best := Nat × Option (List Nat)
def stp (ws : List Nat) (b : Best) (x : List Nat) : Best := if worst ws x < b.1 then (worst ws x, some x) else b
def scan (ws : List Nat) (b : Best) (l : List (List Nat)) : Best := l.foldl (stp ws) b
theorem scan_nil (ws : List Nat) (b : Best) : scan ws b [] = b := rfl
theorem scan_cons (ws : List Nat) (b : Best) (x : List Nat) (l : List (List Nat)) : scan ws b (x :: l) = scan ws (stp ws b x) l := rfl
theorem scan_append (ws : List Nat) (b : Best) (l m : List (List Nat)) : scan ws b (l ++ m) = scan ws (scan ws b l) m := List.foldl_append
theorem scan_le (ws : List Nat) : ∀ (l : List (List Nat)) (b : Best), (scan ws b l).1 ≤ b.1 ∧ ∀ x ∈ l, (scan ws b l).1 ≤ worst ws x
  | [], b => ⟨Nat.le_refl _, fun x h => by simp at h⟩
  | y :: l, b => by
    obtain ⟨h1, h2⟩ := scan_le ws l (stp ws b y)
    rw [scan_cons]
    have h3 : (stp ws b y).1 ≤ b.1 ∧ (stp ws b y).1 ≤ worst ws y := by
      unfold stp
      split
      · exact ⟨Nat.le_of_lt (by assumption), Nat.le_refl _⟩
      · exact ⟨Nat.le_refl _, by omega⟩
    refine ⟨by omega, fun x hx => ?_⟩
    rcases List.mem_cons.mp hx with rfl | hx
    · omega
    · exact h2 x hx
/-- rows that are no better change nothing -/
theorem scan_same (ws : List Nat) : ∀ (l : List (List Nat)) (b : Best), (∀ x ∈ l, b.1 ≤ worst ws x) → scan ws b l = b
  | [], b, _ => rfl
  | y :: l, b, h => by
    have e : stp ws b y = b := by
      unfold stp
      rw [if_neg (by have := h y List.mem_cons_self; omega)]
    rw [scan_cons, e]
    exact scan_same ws l b fun x hx => h x (List.mem_cons_of_mem _ hx)
/-- rows as bad as some before -/
theorem scan_skip (ws : List Nat) (b : Best) (l m : List (List Nat)) (h : ∀ x ∈ m, ∃ y ∈ l, worst ws y ≤ worst ws x) : scan ws b (l ++ m) = scan ws b l := by
  rw [scan_append]
  refine scan_same ws m _ fun x hx => ?_
  obtain ⟨y, hy, hle⟩ := h x hx
  have := (scan_le ws l b).2 y hy
  omega
theorem fold_scan (ws : List Nat) : ∀ (l : List (List Nat)) (b : Nat × List Nat),
    scan ws (b.1, some b.2) l = ((l.foldl (fun (b : Nat × List Nat) (x : List Nat) => if worst ws x < b.1 then (worst ws x, x) else b) b).1, some (l.foldl (fun (b : Nat × List Nat) (x : List Nat) => if worst ws x < b.1 then (worst ws x, x) else b) b).2)
  | [], b => rfl
  | y :: l, b => by
    rw [scan_cons, List.foldl_cons]
    have e : stp ws (b.1, some b.2) y = ((if worst ws y < b.1 then (worst ws y, y) else b).1, some (if worst ws y < b.1 then (worst ws y, y) else b).2) := by
      unfold stp
      split <;> rfl
    rw [e]
    exact fold_scan ws l _
/-! ### sums -/
theorem sumOn_nil (r : List Nat) (x : Nat) : sumOn [] r x = 0 := by simp [sumOn]
theorem sumOn_nil' (ws : List Nat) (x : Nat) : sumOn ws [] x = 0 := by simp [sumOn]
theorem sumOn_cons (w : Nat) (ws : List Nat) (p : Nat) (r : List Nat) (x : Nat) : sumOn (w :: ws) (p :: r) x = (if p = x then w else 0) + sumOn ws r x := by
  unfold sumOn
  rw [List.zip_cons_cons, List.filter_cons]
  by_cases h : p = x
  · subst h; simp
  · rw [if_neg (by simp [h]), if_neg h]; simp
theorem sumOn_append : ∀ (ws r ws' r' : List Nat) (x : Nat), ws.length = r.length → sumOn (ws ++ ws') (r ++ r') x = sumOn ws r x + sumOn ws' r' x
  | [], [], ws', r', x, _ => by rw [sumOn_nil]; simp
  | [], _ :: _, _, _, _, h => by simp at h
  | _ :: _, [], _, _, _, h => by simp at h
  | w :: ws, p :: r, ws', r', x, h => by
    rw [List.cons_append, List.cons_append, sumOn_cons, sumOn_cons, sumOn_append ws r ws' r' x (by simpa using h)]
    omega
def inP (r : List Nat) : Prop := ∀ p ∈ r, p = 1 ∨ p = 2 ∨ p = 3
theorem sums_all : ∀ (ws r : List Nat), ws.length = r.length → inP r → sumOn ws r 1 + sumOn ws r 2 + sumOn ws r 3 = ws.sum
  | [], r, _, _ => by simp [sumOn_nil]
  | _ :: _, [], h, _ => by simp at h
  | w :: ws, p :: r, h, hp => by
    have ih := sums_all ws r (by simpa using h) fun q hq => hp q (List.mem_cons_of_mem _ hq)
    rw [sumOn_cons, sumOn_cons, sumOn_cons, List.sum_cons]
    rcases hp p List.mem_cons_self with rfl | rfl | rfl <;> simp <;> omega
theorem sum_has : ∀ (ws r : List Nat), ws.length = r.length → inP r → ∀ w ∈ ws, w ≤ worst ws r
  | [], r, _, _, w, hw => by simp at hw
  | _ :: _, [], h, _, _, _ => by simp at h
  | v :: ws, p :: r, h, hp, w, hw => by
    unfold worst
    rw [sumOn_cons, sumOn_cons, sumOn_cons]
    rcases List.mem_cons.mp hw with rfl | hw
    · rcases hp p List.mem_cons_self with rfl | rfl | rfl <;> simp <;> omega
    · have ih := sum_has ws r (by simpa using h) (fun q hq => hp q (List.mem_cons_of_mem _ hq)) w hw
      unfold worst at ih
      omega
theorem worst_third (ws r : List Nat) (h : ws.length = r.length) (hp : inP r) : (ws.sum + 2) / 3 ≤ worst ws r := by
  have := sums_all ws r h hp
  unfold worst
  omega
theorem worst_le (ws r : List Nat) (h : ws.length = r.length) (hp : inP r) : worst ws r ≤ ws.sum := by
  have := sums_all ws r h hp
  unfold worst
  omega
/-! ### the rows -/
theorem rows_in : ∀ (n : Nat), ∀ r ∈ rowsOf n, r.length = n ∧ inP r
  | 0, r, h => by
    simp [rowsOf] at h; subst h
    exact ⟨rfl, fun _ h => by simp at h⟩
  | n + 1, r, h => by
    rw [rowsOf, List.mem_flatMap] at h
    obtain ⟨x, hx, h⟩ := h
    obtain ⟨t, ht, rfl⟩ := List.mem_map.mp h
    obtain ⟨h1, h2⟩ := rows_in n t ht
    refine ⟨by simp [h1], fun p hp => ?_⟩
    rcases List.mem_cons.mp hp with rfl | hp
    · simpa using hx
    · exact h2 p hp
theorem in_rows : ∀ (r : List Nat), inP r → r ∈ rowsOf r.length
  | [], _ => by simp [rowsOf]
  | p :: r, h => by
    rw [List.length_cons, rowsOf, List.mem_flatMap]
    refine ⟨p, by have := h p List.mem_cons_self; simpa using this, List.mem_map.mpr ⟨r, in_rows r fun q hq => h q (List.mem_cons_of_mem _ hq), rfl⟩⟩
theorem rows_step (n : Nat) : rowsOf (n + 1) = ((rowsOf n).map fun r => 1 :: r) ++ (((rowsOf n).map fun r => 2 :: r) ++ ((rowsOf n).map fun r => 3 :: r)) := by
  rw [rowsOf]; simp
/-- the rows that go on from p -/
def under (n : Nat) (p : List Nat) : List (List Nat) := (rowsOf (n - p.length)).map fun r => p ++ r
theorem under_full {n : Nat} {p : List Nat} (h : p.length = n) : under n p = [p] := by
  unfold under
  rw [h, Nat.sub_self]; simp [rowsOf]
theorem under_step {n : Nat} {p : List Nat} (h : p.length < n) : under n p = under n (p ++ [1]) ++ (under n (p ++ [2]) ++ under n (p ++ [3])) := by
  unfold under
  obtain ⟨k, hk⟩ : ∃ k, n - p.length = k + 1 := ⟨n - p.length - 1, by omega⟩
  have e : ∀ x, n - (p ++ [x]).length = k := fun x => by simp; omega
  rw [e, e, e, hk, rows_step]
  simp
  rfl
theorem under_in {n : Nat} {p r : List Nat} (hl : p.length ≤ n) (hp : inP p) (h : r ∈ under n p) : r.length = n ∧ inP r ∧ ∃ t, r = p ++ t ∧ t ∈ rowsOf (n - p.length) := by
  obtain ⟨t, ht, rfl⟩ := List.mem_map.mp h
  obtain ⟨h1, h2⟩ := rows_in _ t ht
  refine ⟨by simp [h1]; omega, fun q hq => ?_, t, rfl, ht⟩
  rcases List.mem_append.mp hq with hq | hq
  · exact hp q hq
  · exact h2 q hq
/-- the sums of a prefix -/
def ps (ws p : List Nat) (x : Nat) : Nat := sumOn (ws.take p.length) p x
theorem ps_whole {ws p t : List Nat} (h : (p ++ t).length = ws.length) (x : Nat) : sumOn ws (p ++ t) x = ps ws p x + sumOn (ws.drop p.length) t x := by
  have hl : p.length ≤ ws.length := by rw [← h, List.length_append]; omega
  conv => lhs; rw [← List.take_append_drop p.length ws]
  rw [sumOn_append _ _ _ _ _ (by rw [List.length_take]; omega)]
  rfl
theorem ps_step {ws p : List Nat} {w : Nat} (h : ws[p.length]? = some w) (q x : Nat) : ps ws (p ++ [q]) x = ps ws p x + (if q = x then w else 0) := by
  unfold ps
  have hl : p.length < ws.length := (List.getElem?_eq_some_iff.mp h).1
  have e : ws.take (p ++ [q]).length = ws.take p.length ++ [w] := by
    rw [List.length_append, List.length_singleton, List.take_add_one, h]; rfl
  rw [e, sumOn_append _ _ _ _ _ (by rw [List.length_take]; omega), sumOn_cons, sumOn_nil]
  omega
def top3 (ws p : List Nat) : Nat := max (ps ws p 1) (max (ps ws p 2) (ps ws p 3))
theorem top_le {ws p r : List Nat} (hl : p.length ≤ ws.length) (hp : inP p) (h : r ∈ under ws.length p) : top3 ws p ≤ worst ws r := by
  obtain ⟨h1, _, t, rfl, _⟩ := under_in hl hp h
  unfold top3 worst
  rw [ps_whole h1, ps_whole h1, ps_whole h1]
  omega
theorem top_full {ws p : List Nat} (h : p.length = ws.length) : top3 ws p = worst ws p := by
  unfold top3 worst ps
  rw [h, List.take_length]
/-- two phases that carry as much lead to the same sums: a row by b has one as bad by a -/
def sw (a b x : Nat) : Nat := if x = a then b else if x = b then a else x
theorem sum_sw (a b : Nat) (hab : a ≠ b) : ∀ (ws t : List Nat) (x : Nat), sumOn ws (t.map (sw a b)) x = sumOn ws t (sw a b x)
  | [], t, x => by simp [sumOn_nil]
  | _ :: _, [], x => by simp [sumOn_nil']
  | w :: ws, p :: t, x => by
    rw [List.map_cons, sumOn_cons, sumOn_cons, sum_sw a b hab ws t x]
    have : (sw a b p = x) ↔ (p = sw a b x) := by
      unfold sw
      constructor <;> intro h
      · subst h
        by_cases h1 : p = a
        · subst h1; simp; exact fun h => h.symm
        · by_cases h2 : p = b
          · subst h2; simp [h1]
          · simp [h1, h2]
      · subst h
        by_cases h1 : x = a
        · subst h1; simp
        · by_cases h2 : x = b
          · subst h2; simp [h1]
          · simp [h1, h2]
    simp [this]
theorem worst_swap {ws p : List Nat} {a b : Nat} (hp : inP p) (hl : p.length < ws.length) (ha : a = 1 ∨ a = 2 ∨ a = 3) (hb : b = 1 ∨ b = 2 ∨ b = 3) (hab : a ≠ b) (he : ps ws p a = ps ws p b) :
    ∀ r ∈ under ws.length (p ++ [b]), ∃ y ∈ under ws.length (p ++ [a]), worst ws y ≤ worst ws r := by
  intro r hr
  obtain ⟨h1, h2, t, rfl, ht⟩ := under_in (p := p ++ [b]) (by simp; omega) (fun q hq => by
    rcases List.mem_append.mp hq with hq | hq
    · exact hp q hq
    · simp at hq; subst hq; exact hb) hr
  obtain ⟨tl, tp⟩ := rows_in _ t ht
  have swp : inP (t.map (sw a b)) := fun q hq => by
    obtain ⟨z, hz, rfl⟩ := List.mem_map.mp hq
    have := tp z hz
    unfold sw
    split
    · exact hb
    · split
      · exact ha
      · exact this
  have mem : (p ++ [a]) ++ t.map (sw a b) ∈ under ws.length (p ++ [a]) := by
    refine List.mem_map.mpr ⟨t.map (sw a b), ?_, rfl⟩
    have := in_rows _ swp
    rw [List.length_map, tl] at this
    simpa using this
  refine ⟨_, mem, ?_⟩
  have e1 : (p ++ [b]) ++ t = p ++ (b :: t) := by simp
  have e2 : (p ++ [a]) ++ t.map (sw a b) = p ++ ((b :: t).map (sw a b)) := by simp [sw, hab.symm]
  have l1 : (p ++ (b :: t)).length = ws.length := by rw [← e1]; exact h1
  have l2 : (p ++ ((b :: t).map (sw a b))).length = ws.length := by rw [← l1]; simp
  rw [e1, e2]
  unfold worst
  simp only [ps_whole l1, ps_whole l2, sum_sw a b hab]
  have n1 : ∀ x, sw a b x = if x = a then b else if x = b then a else x := fun x => rfl
  rcases ha with rfl | rfl | rfl <;> rcases hb with rfl | rfl | rfl <;> first | (exact absurd rfl hab) | (simp [n1]; omega)
/-! ### what waits: the top first -/
def pend (n : Nat) : List (List Nat) → List (List Nat)
  | [] => []
  | p :: r => under n p ++ pend n r
structure Ok1 (ws p : List Nat) : Prop where
  len : p.length ≤ ws.length
  inp : inP p
theorem pend_in {ws : List Nat} : ∀ {st : List (List Nat)}, (∀ p ∈ st, Ok1 ws p) → ∀ r ∈ pend ws.length st, r.length = ws.length ∧ inP r
  | [], _, r, h => by simp [pend] at h
  | p :: st, hs, r, h => by
    rcases List.mem_append.mp h with h | h
    · have o := hs p List.mem_cons_self
      obtain ⟨h1, h2, _⟩ := under_in o.len o.inp h
      exact ⟨h1, h2⟩
    · exact pend_in (fun q hq => hs q (List.mem_cons_of_mem _ hq)) r h
/-- what evenly tells -/
def due (ws : List Nat) : Best := ((evenly ws).1, some (evenly ws).2)
def enough (ws : List Nat) : Nat := max ((ws.sum + 2) / 3) (ws.foldl max 0)
theorem fold_max_le : ∀ (ws : List Nat) (a m : Nat), a ≤ m → (∀ w ∈ ws, w ≤ m) → ws.foldl max a ≤ m
  | [], a, m, h, _ => h
  | w :: ws, a, m, h, hw => fold_max_le ws _ m (by have := hw w List.mem_cons_self; simp only [Nat.max_def]; split <;> omega) fun x hx => hw x (List.mem_cons_of_mem _ hx)
theorem enough_le {ws r : List Nat} (h : r.length = ws.length) (hp : inP r) : enough ws ≤ worst ws r := by
  unfold enough
  have h1 := worst_third ws r h.symm hp
  have h2 := fold_max_le ws 0 (worst ws r) (Nat.zero_le _) (sum_has ws r h.symm hp)
  omega
theorem due_start (ws : List Nat) : scan ws (ws.sum + 1, none) (pend ws.length [[]]) = due ws := by
  have e : pend ws.length [[]] = rowsOf ws.length := by simp [pend, under]
  rw [e]
  unfold due evenly
  have key := rows_in ws.length
  cases h : rowsOf ws.length with
  | nil =>
    have := in_rows (List.replicate ws.length 1) (fun q hq => by rw [List.mem_replicate] at hq; exact .inl hq.2)
    rw [List.length_replicate, h] at this
    simp at this
  | cons r l =>
    rw [h] at key
    obtain ⟨k1, k2⟩ := key r List.mem_cons_self
    have w := worst_le ws r k1.symm k2
    rw [scan_cons]
    have e : stp ws (ws.sum + 1, none) r = (worst ws r, some r) := by
      unfold stp
      rw [if_pos (by show worst ws r < ws.sum + 1; omega)]
    rw [e]
    exact fold_scan ws l (worst ws r, r)
theorem due_over {ws p : List Nat} {b : Best} {st : List (List Nat)} (o : Ok1 ws p) (h : b.1 ≤ top3 ws p) : scan ws b (pend ws.length (p :: st)) = scan ws b (pend ws.length st) := by
  show scan ws b (under ws.length p ++ pend ws.length st) = _
  rw [scan_append, scan_same ws _ b fun x hx => Nat.le_trans h (top_le o.len o.inp hx)]
theorem due_full {ws p : List Nat} {b : Best} {st : List (List Nat)} (hl : p.length = ws.length) (h : top3 ws p < b.1) : scan ws b (pend ws.length (p :: st)) = scan ws (top3 ws p, some p) (pend ws.length st) := by
  show scan ws b (under ws.length p ++ pend ws.length st) = _
  rw [scan_append, under_full hl, scan_cons, scan_nil, top_full hl]
  unfold stp
  rw [if_pos (by rw [← top_full hl]; exact h)]
def needless (ws p : List Nat) (x : Nat) : Bool := ((List.range (x - 1)).any fun j => ps ws p (j + 1) == ps ws p x)
def nexts (ws p : List Nat) : List (List Nat) := ([1, 2, 3].filter fun x => !needless ws p x).map fun x => p ++ [x]
theorem need1 (ws p : List Nat) : needless ws p 1 = false := by simp [needless]
theorem need2 (ws p : List Nat) : needless ws p 2 = (ps ws p 1 == ps ws p 2) := by simp [needless, List.range_succ]
theorem need3 (ws p : List Nat) : needless ws p 3 = (ps ws p 1 == ps ws p 3 || ps ws p 2 == ps ws p 3) := by simp [needless, List.range_succ]
theorem due_next {ws p : List Nat} {b : Best} {st : List (List Nat)} (hp : inP p) (hl : p.length < ws.length) : scan ws b (pend ws.length (p :: st)) = scan ws b (pend ws.length (nexts ws p ++ st)) := by
  have hp' : ∀ n : List (List Nat), pend ws.length (n ++ st) = pend ws.length n ++ pend ws.length st := by
    intro n
    induction n with
    | nil => rfl
    | cons a n ih => show under _ a ++ pend _ (n ++ st) = (under _ a ++ pend _ n) ++ _; rw [ih, List.append_assoc]
  rw [hp', scan_append]
  show scan ws b (under ws.length p ++ pend ws.length st) = _
  rw [scan_append]
  congr 1
  rw [under_step hl]
  have s12 : ps ws p 1 = ps ws p 2 → ∀ r ∈ under ws.length (p ++ [2]), ∃ y ∈ under ws.length (p ++ [1]), worst ws y ≤ worst ws r := fun e => worst_swap hp hl (.inl rfl) (.inr (.inl rfl)) (by decide) e
  have s13 : ps ws p 1 = ps ws p 3 → ∀ r ∈ under ws.length (p ++ [3]), ∃ y ∈ under ws.length (p ++ [1]), worst ws y ≤ worst ws r := fun e => worst_swap hp hl (.inl rfl) (.inr (.inr rfl)) (by decide) e
  have s23 : ps ws p 2 = ps ws p 3 → ∀ r ∈ under ws.length (p ++ [3]), ∃ y ∈ under ws.length (p ++ [2]), worst ws y ≤ worst ws r := fun e => worst_swap hp hl (.inr (.inl rfl)) (.inr (.inr rfl)) (by decide) e
  unfold nexts
  simp only [List.filter_cons, List.filter_nil, need1, need2, need3]
  by_cases e12 : ps ws p 1 = ps ws p 2
  · by_cases e13 : ps ws p 1 = ps ws p 3
    · have n2 : (ps ws p 1 == ps ws p 2) = true := by simp [e12]
      have n3 : (ps ws p 1 == ps ws p 3 || ps ws p 2 == ps ws p 3) = true := by simp [e13]
      rw [n2, n3]
      simp [pend]
      refine scan_skip ws b _ _ fun x hx => ?_
      rcases List.mem_append.mp hx with hx | hx
      · exact s12 e12 x hx
      · exact s13 e13 x hx
    · have e23 : ¬ ps ws p 2 = ps ws p 3 := by rw [← e12]; exact e13
      have n2 : (ps ws p 1 == ps ws p 2) = true := by simp [e12]
      have n3 : (ps ws p 1 == ps ws p 3 || ps ws p 2 == ps ws p 3) = false := by simp [e13, e23]
      rw [n2, n3]
      simp [pend]
      rw [← List.append_assoc, scan_append, scan_skip ws b _ _ (s12 e12), ← scan_append]
  · have n2 : (ps ws p 1 == ps ws p 2) = false := by simp [e12]
    by_cases e13 : ps ws p 1 = ps ws p 3
    · have n3 : (ps ws p 1 == ps ws p 3 || ps ws p 2 == ps ws p 3) = true := by simp [e13]
      rw [n2, n3]
      simp [pend]
      rw [← List.append_assoc]
      refine scan_skip ws b _ _ fun x hx => ?_
      obtain ⟨y, hy, hle⟩ := s13 e13 x hx
      exact ⟨y, List.mem_append_left _ hy, hle⟩
    · by_cases e23 : ps ws p 2 = ps ws p 3
      · have n3 : (ps ws p 1 == ps ws p 3 || ps ws p 2 == ps ws p 3) = true := by simp [e23]
        rw [n2, n3]
        simp [pend]
        rw [← List.append_assoc]
        refine scan_skip ws b _ _ fun x hx => ?_
        obtain ⟨y, hy, hle⟩ := s23 e23 x hx
        exact ⟨y, List.mem_append_right _ hy, hle⟩
      · have n3 : (ps ws p 1 == ps ws p 3 || ps ws p 2 == ps ws p 3) = false := by simp [e13, e23]
        rw [n2, n3]
        simp [pend]
theorem due_end {ws : List Nat} {b : Best} {st : List (List Nat)} (ok : ∀ p ∈ st, Ok1 ws p) (h : st = [] ∨ b.1 ≤ enough ws) : scan ws b (pend ws.length st) = b := by
  rcases h with rfl | h
  · rfl
  · refine scan_same ws _ b fun x hx => ?_
    obtain ⟨h1, h2⟩ := pend_in ok x hx
    exact Nat.le_trans h (enough_le h1 h2)
theorem next_ok {ws p : List Nat} (o : Ok1 ws p) (hl : p.length < ws.length) : ∀ q ∈ nexts ws p, Ok1 ws q ∧ q.length = p.length + 1 := by
  intro q hq
  obtain ⟨x, hx, rfl⟩ := List.mem_map.mp hq
  have hx := (List.mem_filter.mp hx).1
  refine ⟨⟨by simp; omega, fun z hz => ?_⟩, by simp⟩
  rcases List.mem_append.mp hz with hz | hz
  · exact o.inp z hz
  · simp at hz; subst hz; simpa using hx
/-- the measure -/
def wt (n : Nat) (st : List (List Nat)) : Nat := (st.map fun p => 4 ^ (n - p.length)).sum
theorem wt_cons (n : Nat) (p : List Nat) (st : List (List Nat)) : wt n (p :: st) = 4 ^ (n - p.length) + wt n st := rfl
theorem wt_append (n : Nat) (a b : List (List Nat)) : wt n (a ++ b) = wt n a + wt n b := by simp [wt]
theorem wt_pos (n : Nat) (p : List Nat) (st : List (List Nat)) : wt n st < wt n (p :: st) := by
  rw [wt_cons]; have := Nat.pow_pos (n := n - p.length) (show 0 < 4 by decide); omega
theorem wt_len (n : Nat) : ∀ st : List (List Nat), st.length ≤ wt n st
  | [] => Nat.zero_le _
  | p :: st => by
    rw [wt_cons, List.length_cons]
    have := wt_len n st
    have := Nat.pow_pos (n := n - p.length) (show 0 < 4 by decide); omega
theorem wt_next {ws p : List Nat} (hl : p.length < ws.length) (st : List (List Nat)) : wt ws.length (nexts ws p ++ st) < wt ws.length (p :: st) := by
  rw [wt_append, wt_cons]
  have k : ∀ l : List Nat, wt ws.length (l.map fun x => p ++ [x]) = l.length * 4 ^ (ws.length - p.length - 1) := by
    intro l
    induction l with
    | nil => simp [wt]
    | cons a l ih =>
      rw [List.map_cons, wt_cons, ih, List.length_cons, Nat.add_mul, Nat.one_mul, List.length_append, List.length_singleton, Nat.sub_add_eq]
      omega
  have l3 : ([1, 2, 3].filter fun x => !needless ws p x).length ≤ 3 := List.length_filter_le _ _
  have e : 4 ^ (ws.length - p.length) = 4 * 4 ^ (ws.length - p.length - 1) := by
    obtain ⟨j, hj⟩ : ∃ j, ws.length - p.length = j + 1 := ⟨ws.length - p.length - 1, by omega⟩
    rw [hj, Nat.pow_succ]; simp; omega
  unfold nexts
  rw [k, e]
  have := Nat.pow_pos (n := ws.length - p.length - 1) (show 0 < 4 by decide)
  have := Nat.mul_le_mul_right (4 ^ (ws.length - p.length - 1)) l3
  omega
theorem curved0 (L : Nat) : ((Sg.curved 0 L : Nat) : Int) = (2 * (255 * (L : Int)) + 100) / (2 * 100) := by
  have e : Sg.curved 0 L = Sg.nearest (255 * L) 100 := by unfold Sg.curved Sg.TOP; rw [if_pos rfl]
  rw [e]; unfold Sg.nearest; omega
theorem curved1 (L : Nat) : ((Sg.curved 1 L : Nat) : Int) = (2 * (255 * (L : Int) * L) + 10000) / (2 * 10000) := by
  have e : Sg.curved 1 L = Sg.nearest (255 * L * L) 10000 := by unfold Sg.curved Sg.TOP; rw [if_neg (by decide), if_pos rfl]
  rw [e]; unfold Sg.nearest
  generalize hx : 255 * L * L = x
  have hy : (255 * (L : Int) * L) = (x : Int) := by rw [← hx, Int.natCast_mul, Int.natCast_mul]; rfl
  rw [hy]; omega
theorem curved2 {L : Nat} (h : L ≤ 100) : ((Sg.curved 2 L : Nat) : Int) = (2 * (255 * (L : Int) * L * (300 - 2 * L)) + 1000000) / (2 * 1000000) := by
  have e : Sg.curved 2 L = Sg.nearest (255 * L * L * (300 - 2 * L)) 1000000 := by unfold Sg.curved Sg.TOP; rw [if_neg (by decide), if_neg (by decide), if_pos rfl]
  rw [e]; unfold Sg.nearest
  obtain ⟨z, hz⟩ : ∃ z, 300 - 2 * L = z := ⟨_, rfl⟩
  have hz' : (300 - 2 * (L : Int)) = (z : Int) := by omega
  rw [hz, hz']
  generalize hx : 255 * L * L * z = x
  have hy : (255 * (L : Int) * L * z) = (x : Int) := by rw [← hx, Int.natCast_mul, Int.natCast_mul, Int.natCast_mul]; rfl
  rw [hy]; omega
theorem curved3 (L : Nat) : Sg.curved 3 L = if L < 50 then 0 else 255 := by unfold Sg.curved Sg.TOP; rw [if_neg (by decide), if_neg (by decide), if_neg (by decide)]
theorem gives_z (d : Sg.Dimmer) (L : Nat) : ((d.gives L : Nat) : Int) = (Sg.curved d.curve L : Nat) * (d.limit : Int) / 100 := by
  unfold Sg.Dimmer.gives
  rw [Int.natCast_ediv, Int.natCast_mul]; rfl
theorem fold_len (ws : List Nat) (n : Nat) : ∀ (l : List (List Nat)) (b : Nat × List Nat), b.2.length = n → (∀ x ∈ l, x.length = n) →
    (l.foldl (fun (b : Nat × List Nat) (x : List Nat) => if worst ws x < b.1 then (worst ws x, x) else b) b).2.length = n
  | [], b, h, _ => h
  | y :: l, b, h, hl => by
    rw [List.foldl_cons]
    refine fold_len ws n l _ ?_ fun x hx => hl x (List.mem_cons_of_mem _ hx)
    split
    · exact hl y List.mem_cons_self
    · exact h
theorem even_len (ws : List Nat) : (evenly ws).2.length ≤ ws.length := by
  unfold evenly
  have key := rows_in ws.length
  cases h : rowsOf ws.length with
  | nil => simp
  | cons r l =>
    rw [h] at key
    exact Nat.le_of_eq (fold_len ws ws.length l (worst ws r, r) (key r List.mem_cons_self).1 fun x hx => (key x (List.mem_cons_of_mem _ hx)).1)
end Mx
end
section
set_option Elab.async false
namespace Xc
open PySem
/-- every object stands, its class and its dict as they were -/
def Dk (h h' : Heap) : Prop := ∀ b o, h.get? b = some o → ∃ u, h'.get? b = some u ∧ u.dict = o.dict ∧ u.cls = o.cls
theorem Dk.refl (h : Heap) : Dk h h := fun _ o e => ⟨o, e, rfl, rfl⟩
theorem Dk.trans {a b c : Heap} (x : Dk a b) (y : Dk b c) : Dk a c := fun p o e => by
  obtain ⟨u, h1, h2, h3⟩ := x p o e
  obtain ⟨v, k1, k2, k3⟩ := y p u h1
  exact ⟨v, k1, k2.trans h2, k3.trans h3⟩
theorem Dk.kept {h h' : Heap} (k : ∀ b o, h.get? b = some o → h'.get? b = some o) : Dk h h' := fun b o e => ⟨o, k b o e, rfl, rfl⟩
theorem Dk.upd {h : Heap} {a : Addr} {f : Obj → Obj} (hf : ∀ o, (f o).dict = o.dict ∧ (f o).cls = o.cls ∧ ((f o).isFreed = o.isFreed)) : Dk h (h.update a f) := fun b o e => by
  by_cases q : b = a
  · subst q
    have fr : o.isFreed = false := (Heap.get?_some_iff.mp e).2
    exact ⟨f o, Heap.get?_update_self f e (by rw [(hf o).2.2]; exact fr), (hf o).1, (hf o).2.1⟩
  · exact ⟨o, (Heap.get?_update_ne _ _ _ _ q).trans e, rfl, rfl⟩
theorem map_fields (g : Array Value → Array Value) (o : Obj) : (Obj.mapFields g o).dict = o.dict ∧ (Obj.mapFields g o).cls = o.cls ∧ (Obj.mapFields g o).isFreed = o.isFreed := by
  obtain ⟨c, d, dt, sl⟩ := o
  cases dt <;> exact ⟨rfl, rfl, rfl⟩
structure Kd {α : Type} (t : Sem α) : Prop where
  out : ∀ (M : Model) (Γ : Ctx) (P : α → Pos → Shared → Prop) (Ee : Value → Pos → Shared → Prop) (p : Pos) (s : Shared), Sem.wp M Γ t P Ee p s → Sem.wp M Γ t (fun a p' s' => P a p' s' ∧ Dk s.heap s'.heap) Ee p s
namespace Kd
variable {α β : Type}
theorem pure (a : α) : Kd (Pure.pure a : Sem α) := ⟨fun _ _ _ _ _ _ h => ⟨h, Dk.refl _⟩⟩
theorem unsup (w : String) : Kd (PySem.unsupported w : Sem α) := ⟨fun _ _ _ _ _ _ h => h⟩
theorem bind {m : Sem α} {f : α → Sem β} (hm : Kd m) (hf : ∀ a, Kd (f a)) : Kd (m >>= f) := ⟨fun M Γ P Ee p s h => by
  rw [Sem.wp_bind'] at h ⊢
  refine Sem.wp_mono M Γ m (fun a p' s' h' => ?_) (fun _ _ _ x => x) p s (hm.out M Γ _ Ee p s h)
  exact Sem.wp_mono M Γ (f a) (fun b p2 s2 h2 => ⟨h2.1, h'.2.trans h2.2⟩) (fun _ _ _ x => x) p' s' ((hf a).out M Γ P Ee p' s' h'.1)⟩
theorem ite {c : Prop} [Decidable c] {t u : Sem α} (ht : Kd t) (hu : Kd u) : Kd (if c then t else u) := by split <;> assumption
theorem load (a : Addr) : Kd (PySem.load a) := ⟨fun _ _ _ _ _ s h => by
  obtain ⟨o, ho, h⟩ := h
  exact ⟨o, ho, h, Dk.refl _⟩⟩
theorem update (a : Addr) (f : Obj → Obj) (hf : ∀ o, (f o).dict = o.dict ∧ (f o).cls = o.cls ∧ ((f o).isFreed = o.isFreed)) : Kd (PySem.update a f) := ⟨fun _ _ _ _ _ _ h => ⟨h.1, h.2, Dk.upd hf⟩⟩
theorem stack : Kd PySem.stack := ⟨fun M Γ P Ee p s h => by
  unfold PySem.stack at h ⊢
  rw [Sem.wp_stack] at h ⊢
  exact ⟨h, Dk.refl _⟩⟩
theorem alloc (o : Obj) : Kd (PySem.alloc o) := ⟨fun M Γ P Ee p s h => by
  refine ⟨h, Dk.kept fun b u e => Heap.get?_push_of_some _ e⟩⟩
theorem field (v : Value) (i : Nat) : Kd (PySem.field v i) := ⟨fun _ Γ P Ee p s h => by
  rw [wp_field_iff] at h ⊢
  obtain ⟨a, o, vs, x, e, ho, hd, hx, h⟩ := h
  exact ⟨a, o, vs, x, e, ho, hd, hx, h, Dk.refl _⟩⟩
theorem setField (v : Value) (i : Nat) (x : Value) : Kd (PySem.setField v i x) := ⟨fun _ Γ P Ee p s h => by
  rw [wp_setField_iff] at h ⊢
  obtain ⟨a, o, vs, e, ho, hd, hi, h⟩ := h
  exact ⟨a, o, vs, e, ho, hd, hi, h, Dk.upd (map_fields _)⟩⟩
end Kd
theorem kd_import (env : Env) (outer : List Env) : Kd (behindIsImport env outer) := by
  unfold behindIsImport; (repeat' with_reducible first | assumption | exact Kd.pure _ | exact Kd.unsup _ | exact Kd.field _ _ | exact Kd.setField _ _ _ | exact Kd.load _ | exact Kd.stack | exact Kd.alloc _ | apply Kd.ite | apply Kd.bind | intro _ | split)
theorem kd_claims : Kd underTheClaimsCaller := by
  unfold underTheClaimsCaller; (repeat' with_reducible first | assumption | exact Kd.pure _ | exact Kd.unsup _ | exact Kd.field _ _ | exact Kd.setField _ _ _ | exact Kd.load _ | exact Kd.stack | exact Kd.alloc _ | apply Kd.ite | apply Kd.bind | intro _ | split)
theorem kd_back (env : Env) (i : Bool) (l : List Env) : Kd (keptBack env i l) := by
  have := kd_claims
  cases l <;> unfold keptBack <;> (repeat' with_reducible first | assumption | exact Kd.pure _ | exact Kd.unsup _ | exact Kd.field _ _ | exact Kd.setField _ _ _ | exact Kd.load _ | exact Kd.stack | exact Kd.alloc _ | apply Kd.ite | apply Kd.bind | intro _ | split)
theorem kd_ready : ∀ l : List Env, Kd (readyFrames l)
  | [] => Kd.pure _
  | env :: outer => by
    have ih := kd_ready outer
    have h1 := kd_import env outer
    have h2 := fun i => kd_back env i outer
    have h3 : ∀ (a : Addr) (g : Obj → Array (Option Value)), Kd (PySem.update a fun o => { o with slots := g o }) := fun a g => Kd.update a _ fun o => by
      obtain ⟨c, d, dt, sl⟩ := o
      cases dt <;> exact ⟨rfl, rfl, rfl⟩
    unfold readyFrames
    (repeat' with_reducible first | assumption | exact Kd.pure _ | exact Kd.unsup _ | exact Kd.field _ _ | exact Kd.setField _ _ _ | exact Kd.load _ | exact Kd.stack | exact Kd.alloc _ | apply Kd.ite | apply Kd.bind | intro _ | split)
    all_goals first | exact h2 _ | exact h3 _ _ | skip
theorem kd_frameObject (l : List Env) : Kd (frameObject l) := by
  cases l with
  | nil => exact Kd.pure _
  | cons env outer =>
    have := kd_ready (env :: outer)
    unfold frameObject; (repeat' with_reducible first | assumption | exact Kd.pure _ | exact Kd.unsup _ | exact Kd.field _ _ | exact Kd.setField _ _ _ | exact Kd.load _ | exact Kd.stack | exact Kd.alloc _ | apply Kd.ite | apply Kd.bind | intro _ | split)
theorem kd_frameEnvs : Kd frameEnvs := by
  unfold frameEnvs; (repeat' with_reducible first | assumption | exact Kd.pure _ | exact Kd.unsup _ | exact Kd.field _ _ | exact Kd.setField _ _ _ | exact Kd.load _ | exact Kd.stack | exact Kd.alloc _ | apply Kd.ite | apply Kd.bind | intro _ | split)
theorem kd_frameOf (env : Env) : Kd (frameOf env) := by
  have h1 := kd_frameEnvs
  have h2 := kd_frameObject
  unfold frameOf; (repeat' with_reducible first | assumption | exact Kd.pure _ | exact Kd.unsup _ | exact Kd.field _ _ | exact Kd.setField _ _ _ | exact Kd.load _ | exact Kd.stack | exact Kd.alloc _ | apply Kd.ite | apply Kd.bind | intro _ | split)
  all_goals first | exact h2 _ | skip
theorem kd_place (f : Addr) (b : Bool) : Kd (entryPlaceOf f b) := by
  unfold entryPlaceOf; (repeat' with_reducible first | assumption | exact Kd.pure _ | exact Kd.unsup _ | exact Kd.field _ _ | exact Kd.setField _ _ _ | exact Kd.load _ | exact Kd.stack | exact Kd.alloc _ | apply Kd.ite | apply Kd.bind | intro _ | split)
theorem kd_newEntry (a b c d e : Value) (l : List Value) : Kd (EntryCells.newEntry a b c d e l) := by
  unfold EntryCells.newEntry newFields newObj newObjAsIs; (repeat' with_reducible first | assumption | exact Kd.pure _ | exact Kd.unsup _ | exact Kd.field _ _ | exact Kd.setField _ _ _ | exact Kd.load _ | exact Kd.stack | exact Kd.alloc _ | apply Kd.ite | apply Kd.bind | intro _ | split)
theorem kd_setFlight (e : Value) (f : Option Addr) : Kd (setFlight e f) := by
  unfold setFlight; (repeat' with_reducible first | assumption | exact Kd.pure _ | exact Kd.unsup _ | exact Kd.field _ _ | exact Kd.setField _ _ _ | exact Kd.load _ | exact Kd.stack | exact Kd.alloc _ | apply Kd.ite | apply Kd.bind | intro _ | split)
theorem kd_noteFrame (e : Value) (env : Env) : Kd (noteFrame e env) := by
  have h1 := kd_frameOf env
  have h2 := kd_place
  have h3 := kd_newEntry
  unfold noteFrame; (repeat' with_reducible first | assumption | exact Kd.pure _ | exact Kd.unsup _ | exact Kd.field _ _ | exact Kd.setField _ _ _ | exact Kd.load _ | exact Kd.stack | exact Kd.alloc _ | apply Kd.ite | apply Kd.bind | intro _ | split)
  all_goals first | exact h2 _ _ | exact h3 _ _ _ _ _ _ | skip
theorem kd_leaving (env : Env) (e : Value) : Kd (leaving env e) := by
  have h1 := kd_noteFrame e env
  have h2 := kd_setFlight e none
  unfold leaving; (repeat' with_reducible first | assumption | exact Kd.pure _ | exact Kd.unsup _ | exact Kd.field _ _ | exact Kd.setField _ _ _ | exact Kd.load _ | exact Kd.stack | exact Kd.alloc _ | apply Kd.ite | apply Kd.bind | intro _ | split)
theorem Kd.any {α : Type} {t : Sem α} (k : Kd t) {M : Model} {A : Around} {Q : α → Shared → Prop} {E : Value → Shared → Prop} {s : Shared} (h : wpAny M A t Q E s) : wpAny M A t (fun a s' => Q a s' ∧ Dk s.heap s'.heap) E s :=
  fun Γ p hΓ => k.out M Γ (fun a _ s' => Q a s') (fun e _ s' => E e s') p s (h Γ p hΓ)
end Xc
end
section
set_option Elab.async false
set_option maxRecDepth 100000
namespace Xc
open PySem Builtin Builtin.ObjectAttr
abbrev bmV : List Value := [.type "ValueError", .type "Exception", .type "BaseException", .type "object"]
section
variable {prog : Program} {w : World} {A : Around} {E : Value → Shared → Prop} {h : Heap} {g : Array GenState} {d : Drawn} {t : Nat} {os : OsState}
variable {nm q : Str} {C N x : Addr} {bs bm : List Value} {B sa owner : String} {sn : List Str} {sub : List Value} {ab : Bool} {col : Option Bool} {dd : Option Addr} {k0 k1 k2 k3 k5 : Option Value} {newId : String} {mN : Str → Option Value} {name : Str} {v : Value}
/-- the first attribute of an error without a dict: its dict is new -/
theorem first_in {tk : Tok} {o : Obj} {vs : Array Value} {Q : PySem.Fin → Shared → Prop} (SF : StoreFacts B bm sa owner)
    (hC : h.get? C = some (excClassObj nm q C N bs bm true sn sub ab col dd k0 k1 k2 k3 k5 newId)) (hn : h.Ns N mN) (hna : mN name = none) (hB : typeLookup (.type B) name = pure none)
    (hx : h.get? x = some o) (hc : o.cls = .ref C) (hdn : o.dict = none) (hdt : o.data = .fields vs)
    (hq : ∀ h' k, h'.get? x = some { o with dict := some h.objs.size } → h'.Ns1 h.objs.size (fun y => if y = name then some v else none) →
      (∀ b o, b ≠ x → h.get? b = some o → h'.get? b = some o) → Q (.done (.ret .none)) ⟨h', g, d, k, os⟩) :
    wpAny (model prog w) A (Builtin.«object.__setattr__» ⟨[.ref x, .str name tk, v], []⟩) Q E ⟨h, g, d, t, os⟩ := by
  have away := SF.passes (.ref x)
  have hxs : x ≠ h.objs.size := Nat.ne_of_lt (Heap.lt_size hx)
  unfold Builtin.«object.__setattr__»
  repeat (first | (rw [refuse_eq]) | (rw [refuseLoop_ref, away]) | (with_reducible refine wpAny_loadPart_at hx ?_; rw [hc]) | with_reducible refine wpAny_mroOf_exc hC ?_ | (with_reducible refine wpAny_typeLookup_exc hC hn SF.mro hB ?_; rw [hna]) | wp_step)
  rw [hdn, if_neg (by simp [typeHasDict]), hdt]
  have hx1 : (h.push { cls := .type "dict", data := .dict #[] }).get? x = some o := Heap.get?_push_of_some _ hx
  refine wpAny_bind (wpAny_alloc' (wpAny_bind (wpAny_update' hx1 (wpAny_pure ?_))))
  have hnew : (h.push { cls := .type "dict", data := .dict #[] }).get? h.objs.size = some { cls := .type "dict", data := .dict #[] } := Heap.get?_push_at rfl rfl
  have hnd : ((h.push { cls := .type "dict", data := .dict #[] }).update x fun u => { cls := u.cls, dict := some h.objs.size, data := u.data, slots := u.slots }).Ns h.objs.size fun _ => none := by
    refine ⟨{ cls := .type "dict", data := .dict #[] }, #[], _, (Heap.get?_update_ne _ _ _ _ hxs.symm).trans hnew, rfl, ?_, fun _ => rfl⟩
    intro e he
    exact absurd he (by simp)
  have fr : o.isFreed = false := (Heap.get?_some_iff.mp hx).2
  have hx2 : ((h.push { cls := .type "dict", data := .dict #[] }).update x fun u => { cls := u.cls, dict := some h.objs.size, data := u.data, slots := u.slots }).get? x = some { o with dict := some h.objs.size } := by
    refine Heap.get?_update_self _ hx1 ?_
    obtain ⟨oc, od, odt, osl⟩ := o
    cases hdt
    rfl
  show wpAny _ _ (storeInDict h.objs.size (.str name tk) name v) _ _ _
  unfold storeInDict newKeyGuard
  refine wpAny_bind (wpAny_pure (wpAny_bind (wpAny_nsSet1 (Heap.Ns1.of_empty hnd) fun h2 hn2 hs => ?_)))
  obtain ⟨oD, es, ep, hoD, hdD, hcD⟩ := hn2.count (Within.cons name v Within.nil)
  refine wpAny_bind (wpAny_lookBehind hoD (by rw [hdD]; exact pastItsLine_dict (Nat.le_trans hcD (by show 1 ≤ sizeLine + 1; decide))) ?_)
  wp_walk
  refine hq h2 _ ((hs.2 x hxs).trans hx2) hn2 fun b u hb hbu => ?_
  exact (hs.2 b (Nat.ne_of_lt (Heap.lt_size hbu))).trans ((Heap.get?_update_ne _ _ _ _ hb).trans (Heap.get?_push_of_some _ hbu))
theorem first_attr {o : Obj} {vs : Array Value} {Q : Unit → Shared → Prop} (SF : StoreFacts B bm sa owner)
    (hC : h.get? C = some (excClassObj nm q C N bs bm true sn sub ab col dd k0 k1 k2 k3 k5 newId)) (hn : h.Ns N mN) (hns : mN "__setattr__" = none) (hna : mN name = none) (hB : typeLookup (.type B) name = pure none)
    (hx : h.get? x = some o) (hc : o.cls = .ref C) (hdn : o.dict = none) (hdt : o.data = .fields vs)
    (hq : ∀ h' k, h'.get? x = some { o with dict := some h.objs.size } → h'.Ns1 h.objs.size (fun y => if y = name then some v else none) →
      (∀ b o, b ≠ x → h.get? b = some o → h'.get? b = some o) → Q () ⟨h', g, d, k, os⟩) :
    wpAny (model prog w) A (setAttr (.ref x) name v) Q E ⟨h, g, d, t, os⟩ := by
  have f3 := SF.slot.bind (.ref x)
  unfold setAttr callSpecial? specialOf
  repeat (any_goals (first | assumption | (with_reducible refine wpAny_loadPart_at hx ?_; rw [hc]) | (with_reducible refine wpAny_typeLookup_exc hC hn SF.mro SF.slot.lookup ?_; rw [hns]) | wp_step))
  refine codeAny_call_builtin SF.slot.plain SF.entry (wpAny_check_sa SF hC hx hc (first_in SF hC hn hna hB hx hc hdn hdt fun h2 k e1 e2 e3 => ?_))
  repeat (any_goals (first | assumption | wp_step))
  exact hq h2 k e1 e2 e3
end
end Xc
end
section
set_option Elab.async false
set_option maxRecDepth 100000
namespace Xc
open PySem Builtin Builtin.ObjectAttr
section
variable {prog : Program} {w : World} {A : Around} {E : Value → Shared → Prop} {h : Heap} {g : Array GenState} {d : Drawn} {t : Nat} {os : OsState}
variable {nm q : Str} {C N x dx : Addr} {bs bm : List Value} {B : String} {sn : List Str} {sub : List Value} {ab : Bool} {col : Option Bool} {dd : Option Addr} {k0 k1 k2 k3 k5 : Option Value} {newId : String} {mN mA : Str → Option Value} {name : Str} {v : Value} {o : Obj} {vs : Array Value}
theorem held_in {tk : Tok} {Q : PySem.Fin → Shared → Prop} (FB : ExcAttrBase B bm)
    (hC : h.get? C = some (excClassObj nm q C N bs bm true sn sub ab col dd k0 k1 k2 k3 k5 newId)) (hn : h.Ns N mN) (hna : mN name = none) (hB : typeLookup (.type B) name = pure none)
    (hx : h.get? x = some o) (hc : o.cls = .ref C) (hdd : o.dict = some dx) (hdt : o.data = .fields vs) (hns : h.Ns1 dx mA) (hv : mA name = some v) (hq : Q (.done (.ret v)) ⟨h, g, d, t, os⟩) :
    wpAny (model prog w) A (Builtin.«object.__getattribute__» ⟨[.ref x, .str name tk], []⟩) Q E ⟨h, g, d, t, os⟩ := by
  unfold Builtin.«object.__getattribute__»
  repeat (first | (with_reducible refine wpAny_typeLookup_exc hC hn FB.mro hB ?_; rw [hna]) | (with_reducible refine wpAny_loadPart_at hx ?_; rw [hc]) | wp_step)
  rw [hdt]
  dsimp only
  unfold instanceDict
  repeat (first | with_reducible refine wpAny_loadPart_at hC ?_ | (with_reducible refine wpAny_loadPart_at hx ?_; rw [hc]) | wp_step)
  rw [hdd]
  repeat (first | (with_reducible refine wpAny_nsGet hns.ns ?_; rw [hv]) | wp_step)
  exact hq
theorem held_check {M : Model} {nv : Value} {Q : Unit → Shared → Prop} (FB : ExcAttrBase B bm)
    (hC : h.get? C = some (excClassObj nm q C N bs bm true sn sub ab col dd k0 k1 k2 k3 k5 newId)) (hx : h.get? x = some o) (hc : o.cls = .ref C) (hq : Q () ⟨h, g, d, t, os⟩) :
    wpAny M A (checkBuiltinCall "BaseException.__getattribute__" ⟨[.ref x, nv], []⟩) Q E ⟨h, g, d, t, os⟩ := by
  have kd : builtinKind "BaseException.__getattribute__" = some .slot := by decide +kernel
  have sp : splitId "BaseException.__getattribute__" = some ("BaseException", "__getattribute__") := by decide +kernel
  have hcB : (Value.ref C :: bm).contains (.type "BaseException") = true := by rw [List.contains_cons, FB.hasBase, Bool.or_true]
  have ha := F.args_bexc_ga (.ref x) nv
  simp only [checkBuiltinCall, kd, sp]
  refine wpAny_bind ?_
  unfold isInstance
  repeat (first | (with_reducible refine wpAny_isSubtype_exc hC ?_; rw [hcB]) | (with_reducible refine wpAny_loadPart_at hx ?_; rw [hc]) | wp_step)
  exact hq
theorem held_call {tk : Tok} {R : Result → Shared → Prop} (FB : ExcAttrBase B bm)
    (hC : h.get? C = some (excClassObj nm q C N bs bm true sn sub ab col dd k0 k1 k2 k3 k5 newId)) (hn : h.Ns N mN) (hna : mN name = none) (hB : typeLookup (.type B) name = pure none)
    (hx : h.get? x = some o) (hc : o.cls = .ref C) (hdd : o.dict = some dx) (hdt : o.data = .fields vs) (hns : h.Ns1 dx mA) (hv : mA name = some v) (hq : R (.ok (.ret v)) ⟨h, g, d, t, os⟩) :
    codeAny (model prog w) A (.call (.builtin "BaseException.__getattribute__") ⟨[.ref x, .str name tk], []⟩) R ⟨h, g, d, t, os⟩ :=
  codeAny_call_builtin FB.ga.plain F.entry_bexc_ga (held_check FB hC hx hc (held_in FB hC hn hna hB hx hc hdd hdt hns hv hq))
theorem held_by {tk : Tok} {fill expr : Bool} {Q : Value → Shared → Prop} (FB : ExcAttrBase B bm)
    (hC : h.get? C = some (excClassObj nm q C N bs bm true sn sub ab col dd k0 k1 k2 k3 k5 newId)) (hn : h.Ns N mN) (hng : mN "__getattribute__" = none) (hnh : mN "__getattr__" = none) (hna : mN name = none) (hB : typeLookup (.type B) name = pure none)
    (hx : h.get? x = some o) (hc : o.cls = .ref C) (hdd : o.dict = some dx) (hdt : o.data = .fields vs) (hns : h.Ns1 dx mA) (hv : mA name = some v) (hh : handedOut v = pure v) (hq : Q v ⟨h, g, d, t, os⟩) :
    wpAny (model prog w) A (getAttrBy (.ref x) (.str name tk) fill expr) Q E ⟨h, g, d, t, os⟩ := by
  have b3 := FB.ga.bind (.ref x)
  have b0 : (expr && onTheHeap (Value.builtin "BaseException.__getattribute__")) = false := by cases expr <;> rfl
  have b2 : (Value.builtin "BaseException.__getattribute__" == Value.builtin "object.__getattribute__") = false := by decide +kernel
  have b1 : (onTheHeap (Value.ref C) && Value.builtin "BaseException.__getattribute__" == Value.builtin "object.__getattribute__") = false := by rw [b2]; rfl
  repeat (any_goals (first | assumption | (with_reducible refine wpAny_typeLookup_exc hC hn FB.mro FB.ga.lookup ?_; rw [hng]) | (with_reducible refine wpAny_typeLookup_exc hC hn FB.mro FB.noGetattr ?_; rw [hnh]) | (with_reducible refine wpAny_loadPart_at hx ?_; rw [hc]) | wp_step))
  refine held_call FB hC hn hna hB hx hc hdd hdt hns hv ?_
  repeat (any_goals (first | assumption | (rw [hh]) | wp_step))
theorem held_attr {expr : Bool} {Q : Value → Shared → Prop} (FB : ExcAttrBase B bm)
    (hC : h.get? C = some (excClassObj nm q C N bs bm true sn sub ab col dd k0 k1 k2 k3 k5 newId)) (hn : h.Ns N mN) (hng : mN "__getattribute__" = none) (hnh : mN "__getattr__" = none) (hna : mN name = none) (hB : typeLookup (.type B) name = pure none)
    (hx : h.get? x = some o) (hc : o.cls = .ref C) (hdd : o.dict = some dx) (hdt : o.data = .fields vs) (hns : h.Ns1 dx mA) (hv : mA name = some v) (hh : handedOut v = pure v) (hq : Q v ⟨h, g, d, t + 1, os⟩) :
    wpAny (model prog w) A (getAttr (.ref x) name expr) Q E ⟨h, g, d, t, os⟩ := by
  unfold getAttr
  repeat (any_goals (first | assumption | with_reducible apply held_by FB hC hn hng hnh hna hB hx hc hdd hdt hns hv hh | wp_step))
end
end Xc
end
section
set_option Elab.async false
set_option maxRecDepth 100000
namespace Xc
open PySem
section
variable {M : Model} {A : Around} {E : Value → Shared → Prop} {env : Env}
variable {nm q : Str} {C N : Addr} {bs bm : List Value} {hdct : Bool} {sn : List Str} {sub : List Value} {ab : Bool} {col : Option Bool} {dd : Option Addr} {k0 k1 k2 k3 k5 : Option Value} {newId : String}
/-- raise of an own error that was made and has got attributes -/
theorem raise_has {s : Shared} {x : Sem Value} {Q : Flow → Shared → Prop} (hbase : bm.contains (.type "BaseException") = true) (hh : A.handled = none)
    (h : wpAny M A x (fun v s1 => ∃ (e : Addr) (o : Obj) (vs : Array Value), v = .ref e ∧ s1.heap.get? C = some (excClassObj nm q C N bs bm hdct sn sub ab col dd k0 k1 k2 k3 k5 newId) ∧
      s1.heap.get? e = some o ∧ o.cls = .ref C ∧ o.data = .fields vs ∧ vs[1]? = some .none ∧ E (.ref e) s1) E s) :
    wpAny M A (raiseStmt env (some x) none) Q E s := by
  have hcB : (Value.ref C :: bm).contains (.type "BaseException") = true := by rw [List.contains_cons, hbase, Bool.or_true]
  unfold raiseStmt
  refine wpAny_bind (wpAny_mono h (fun v s1 h1 => ?_) fun _ _ z => z)
  obtain ⟨e, o, vs, rfl, hC, he, hc, hd, hv1, hE⟩ := h1
  obtain ⟨hp, g, d, tk, os⟩ := s1
  repeat (first | with_reducible refine wpAny_loadPart_at hC ?_ | (with_reducible refine wpAny_loadPart_at he ?_; rw [hc]) | with_reducible refine wpAny_field he hd hv1 ?_ | (with_reducible refine wpAny_isSubtype_exc hC ?_; rw [hcB]) | wp_step)
  exact wpAny_raiseNew_none hh hE
end
section
variable {prog : Program} {w : World} {A : Around} {E : Value → Shared → Prop} {env : Env} {s : Shared}
variable {nm q : Str} {C N : Addr} {bs bm : List Value} {hdct : Bool} {sn : List Str} {sub : List Value} {ab : Bool} {col : Option Bool} {dd : Option Addr} {k0 k1 k2 k3 k5 : Option Value} {newId : String}
theorem Raise_has {x : Expr} {pos : Pos} {Q : Flow → Shared → Prop} (hbase : bm.contains (.type "BaseException") = true) (hh : A.handled = none)
    (h : wpAny (model prog w) A (eval x env) (fun v s1 => ∃ (e : Addr) (o : Obj) (vs : Array Value), v = .ref e ∧ s1.heap.get? C = some (excClassObj nm q C N bs bm hdct sn sub ab col dd k0 k1 k2 k3 k5 newId) ∧
      s1.heap.get? e = some o ∧ o.cls = .ref C ∧ o.data = .fields vs ∧ vs[1]? = some .none ∧ E (.ref e) s1) E s) :
    wpAny (model prog w) A (exec (.Raise (some x) none pos) env) Q E s := by
  rw [arm_exec_Raise]
  refine wpAny_bind (wpAny_standAt (raise_has (C := C) (nm := nm) (q := q) (N := N) (bs := bs) (bm := bm) (hdct := hdct) (sn := sn) (sub := sub) (ab := ab) (col := col) (dd := dd) (k0 := k0) (k1 := k1) (k2 := k2) (k3 := k3) (k5 := k5) (newId := newId) hbase hh ?_))
  exact wpAny_bind (wpAny_mono h (fun v s3 h3 => wpAny_bind (wpAny_standAt (wpAny_pure h3))) fun _ _ z => z)
/-- the clause that names its class takes it -/
theorem clause_own {e : Addr} {t : Expr} {n : Str} {b0 : Stmt} {suite : List Stmt} {pos : Pos} {rest : List ExceptHandler} {Q : Flow → Shared → Prop} (hbase : bm.contains (.type "BaseException") = true)
    (h : wpAny (model prog w) (A.mark (some (.ref e))) (eval t env) (fun c s1 => c = .ref C ∧ s1.heap.get? C = some (excClassObj nm q C N bs bm hdct sn sub ab col dd k0 k1 k2 k3 k5 newId) ∧ (∃ oe, s1.heap.get? e = some oe ∧ oe.cls = .ref C) ∧
      wpAny (model prog w) (A.mark (some (.ref e))) (setFlight (.ref e) none) (fun _ s2 => wpAny (model prog w) (A.mark (some (.ref e))) (storeName env n (.ref e)) (fun _ s3 =>
        wpAny (model prog w) (A.mark (some (.ref e))) (execs (b0 :: suite) env)
          (fun f s4 => wpAny (model prog w) A (do bindName env n .none; unbindBehindTheSuite env n pos) (fun _ s5 => Q f s5) E s4) (fun _ _ => False) s3) (fun _ _ => False) s2) (fun _ _ => False) s1) (fun _ _ => False) s) :
    wpAny (model prog w) A (handleBy (.ref e) env (.ExceptHandler (some t) (some n) (b0 :: suite) pos :: rest)) Q E s := by
  refine wpAny_handleBy_cons (codeAny_handlers_test (wpAny_mono h (fun c s1 h1 => ?_) fun _ _ z => z.elim)) (by intro z; cases z)
  obtain ⟨rfl, hC, ⟨oe, he, hcls⟩, hk⟩ := h1
  obtain ⟨hp, g, d, tk, os⟩ := s1
  refine wpAny_excMatches_sub_self hC he hcls hbase (codeAny_handlers_suite_as ?_)
  refine wpAny_mono hk (fun _ s2 h2 => wpAny_mono h2 (fun _ s3 h3 => wpAny_mono h3 (fun f s4 h4 => h4) fun _ _ z => z.elim) fun _ _ z => z.elim) fun _ _ z => z.elim
end
end Xc
end
section
set_option Elab.async false
set_option linter.all false
set_option maxRecDepth 100000
/-! THE HAND LAYER, for ints, bools, texts, own classes, lists, tuples, dicts, comprehensions, walks over dicts, enumerate, zip, reversed, texts, calls, loops. Paste it whole ahead of your own text; what your proof does not reach may be deleted. -/
namespace L2
open PySem PySem.Spec PyProof.Rows
/-- a key: an int or a str -/
abbrev Key := Sum Int Str
def keyIs : Key → Value → Bool
  | .inl k, v => Value.isInt k v
  | .inr x, v => Value.isStrOf x v
def keyH (w : World) : Key → Int
  | .inl k => hashInt k
  | .inr x => hashStr w x
theorem keyIs_shape : ∀ {k : Key} {v : Value}, keyIs k v = true → (∃ i t, k = Sum.inl i ∧ v = Value.int i t) ∨ (∃ x t, k = Sum.inr x ∧ v = Value.str x t)
  | .inl i, v, h => by
    obtain ⟨t, e⟩ := Value.isInt_shape (k := i) (v := v) h
    exact .inl ⟨i, t, rfl, e⟩
  | .inr x, v, h => by
    obtain ⟨t, e⟩ := Value.isStrOf_shape (x := x) (v := v) h
    exact .inr ⟨x, t, rfl, e⟩
theorem key_ll (a b : Int) : decide ((Sum.inl a : Key) = Sum.inl b) = (a == b) := by
  by_cases e : a = b
  · subst e; simp
  · have h : ¬ (Sum.inl a : Key) = Sum.inl b := fun q => e (Sum.inl.inj q)
    rw [decide_eq_false h]
    exact (beq_eq_false_iff_ne.mpr e).symm
theorem key_rr (a b : Str) : decide ((Sum.inr a : Key) = Sum.inr b) = decide (a = b) := by
  by_cases e : a = b
  · subst e; simp
  · have h : ¬ (Sum.inr a : Key) = Sum.inr b := fun q => e (Sum.inr.inj q)
    rw [decide_eq_false h, decide_eq_false e]
theorem key_lr (a : Int) (b : Str) : decide ((Sum.inl a : Key) = Sum.inr b) = false := decide_eq_false (fun q => nomatch q)
theorem key_rl (a : Str) (b : Int) : decide ((Sum.inr a : Key) = Sum.inl b) = false := decide_eq_false (fun q => nomatch q)
def mixKind (prog : Program) (w : World) : PySem.KeyKind prog w Key where
  is := keyIs
  hash := keyH w
  inj := fun v a b ha hb => by
    rcases keyIs_shape ha with ⟨i, t, rfl, rfl⟩ | ⟨x, t, rfl, rfl⟩
    · rcases keyIs_shape hb with ⟨j, u, rfl, e⟩ | ⟨y, u, rfl, e⟩
      · injection e with e1 _; rw [e1]
      · exact nomatch e
    · rcases keyIs_shape hb with ⟨j, u, rfl, e⟩ | ⟨y, u, rfl, e⟩
      · exact nomatch e
      · injection e with e1 _; rw [e1]
  byValue := fun k v h => by
    rcases keyIs_shape h with ⟨i, t, rfl, rfl⟩ | ⟨x, t, rfl, rfl⟩ <;> rfl
  pyHash := fun hv h => by
    rcases keyIs_shape hv with ⟨i, t, rfl, rfl⟩ | ⟨x, t, rfl, rfl⟩
    · exact wpAny_pyHash_int h
    · exact wpAny_pyHash_str h
  eqBool := fun hu hv h => by
    rcases keyIs_shape hu with ⟨i, t, rfl, rfl⟩ | ⟨x, t, rfl, rfl⟩
    · rcases keyIs_shape hv with ⟨j, u, rfl, rfl⟩ | ⟨y, u, rfl, rfl⟩
      · rw [key_ll] at h; exact wpAny_eqBool_int h
      · rw [key_lr] at h; exact SeqAt.EqAt.int_str i t y u _ _ _ _ h
    · rcases keyIs_shape hv with ⟨j, u, rfl, rfl⟩ | ⟨y, u, rfl, rfl⟩
      · rw [key_rl] at h; exact SeqAt.EqAt.str_int x t j u _ _ _ _ h
      · rw [key_rr] at h; exact wpAny_eqBool_str h
  «strs» := fun k x t v h => by
    rcases keyIs_shape h with ⟨i, u, rfl, e⟩ | ⟨y, u, rfl, e⟩
    · exact nomatch e
    · injection e with e1 _
      subst e1
      cases v <;> rfl
end L2
namespace L2
open PySem PySem.Spec PyProof.Rows
/-- a value, without the heap -/
inductive V where
  | non | bl (b : Bool) | int (i : Int) | str (x : Str) | byt (b : Array UInt8) | flt (b : UInt64) | ref (a : Addr) | ty (n : String)
  deriving DecidableEq
def RelV : V → Value → Prop
  | .non, u => u = Value.none
  | .bl b, u => u = Value.bool b
  | .int i, u => ∃ t, u = Value.int i t
  | .str x, u => ∃ t, u = Value.str x t
  | .byt b, u => ∃ t, u = Value.bytes b t
  | .flt b, u => ∃ t, u = Value.float b t
  | .ref a, u => u = Value.ref a
  | .ty n, u => u = Value.type n
abbrev Vals : List V → List Value → Prop := Paired RelV
theorem Vals.length {xs : List V} {us : List Value} (r : Vals xs us) : xs.length = us.length := Paired.length r
theorem Vals.get : ∀ {xs : List V} {us : List Value} {i : Nat} {x : V}, Vals xs us → xs[i]? = some x → ∃ u, us[i]? = some u ∧ RelV x u
  | _, _, _, _, .nil, e => by simp at e
  | _, _, 0, _, .cons r _, e => by simp at e; subst e; exact ⟨_, rfl, r⟩
  | _, _, i + 1, x, .cons _ t, e => by
    obtain ⟨u, h1, h2⟩ := Vals.get (i := i) (x := x) t (by simpa using e)
    exact ⟨u, by simpa using h1, h2⟩
theorem Vals.set {x : V} {u : Value} (r : RelV x u) : ∀ {xs : List V} {us : List Value} (i : Nat), Vals xs us → Vals (xs.set i x) (us.set i u)
  | _, _, _, .nil => .nil
  | _, _, 0, .cons _ t => .cons r t
  | _, _, i + 1, .cons q t => .cons q (Vals.set r i t)
theorem Vals.append : ∀ {xs ys : List V} {us ws : List Value}, Vals xs us → Vals ys ws → Vals (xs ++ ys) (us ++ ws)
  | _, _, _, _, .nil, s => s
  | _, _, _, _, .cons r t, s => .cons r (Vals.append t s)
theorem Vals.take : ∀ {xs : List V} {us : List Value} (n : Nat), Vals xs us → Vals (xs.take n) (us.take n)
  | _, _, 0, _ => .nil
  | _, _, _ + 1, .nil => .nil
  | _, _, n + 1, .cons r t => .cons r (Vals.take n t)
theorem Vals.drop : ∀ {xs : List V} {us : List Value} (n : Nat), Vals xs us → Vals (xs.drop n) (us.drop n)
  | _, _, 0, r => r
  | _, _, _ + 1, .nil => .nil
  | _, _, n + 1, .cons _ t => Vals.drop n t
theorem Vals.none_of : ∀ {xs : List V} {us : List Value} {i : Nat}, Vals xs us → xs[i]? = none → us[i]? = none := fun {xs us i} r e => by
  have h1 := r.length
  have h2 : xs.length ≤ i := List.getElem?_eq_none_iff.mp e
  exact List.getElem?_eq_none_iff.mpr (by omega)
def RelO : Option V → Option Value → Prop
  | some v, some u => RelV v u
  | none, none => True
  | _, _ => False
def KV {κ : Type} : List (κ × V) → List (κ × Value) → Prop := Paired fun (p : κ × V) (q : κ × Value) => p.1 = q.1 ∧ RelV p.2 q.2
/-- a key of a dict (00_mix): an int or a text -/
def kV : Key → V
  | .inl i => .int i
  | .inr x => .str x
/-- what stands at a tracked address -/
inductive HO where
  /-- a list -/
  | lst (xs : List V)
  /-- a tuple (never changes) -/
  | tup (xs : List V)
  /-- a dict whose keys are ints and texts; one whose keys are tuples of ints and texts (the empty one is both) -/
  | dK (kvs : List (Key × V)) | dT (kvs : List (List Key × V))
  /-- a set of ints: its members, its size -/
  | set (S : Int → Bool) (n : Nat)
  /-- an instance of the class at C, its dict at dx, its attributes -/
  | ins (C dx : Addr) (fs : List (Str × V))
  /-- the dict of the instance at x -/
  | own (x : Addr)
  /-- the dict of an exception -/
  | xd (fs : List (Str × V))
  /-- a bound method, f of x -/
  | met (f x : Addr)
  /-- a range object lo, lo + 1, .. below hi -/
  | rng (lo hi : Int)
  /-- a thing that is known to the object (the script; a dict while a loop walks it): read, never written while it is so -/
  | frz (o : Obj) (u : HO)
  /-- a code object's table -/
  | tbl (ps : Array Value)
  /-- any other thing, by what is true of its one object (a def of one's own: SetO a S n := HO.ext fun h => ..) -/
  | ext (φ : Heap → Prop)
abbrev Hp := Addr → Option HO
def upd (H : Hp) (a : Addr) (o : HO) : Hp := fun b => if b = a then some o else H b
theorem upd_same {H : Hp} {a : Addr} {o : HO} : upd H a o a = some o := by unfold upd; rw [if_pos rfl]
theorem upd_ne {H : Hp} {a b : Addr} {o : HO} (h : b ≠ a) : upd H a o b = H b := by unfold upd; rw [if_neg h]
theorem upd_upd {H : Hp} {a : Addr} {o u : HO} : upd (upd H a o) a u = upd H a u := by
  funext b; unfold upd; split <;> rfl
/-- two objects of different content stand apart -/
theorem ne_of {H : Hp} {a b : Addr} {o u : HO} (h : H a = some o) (h' : H b = some u) (d : o ≠ u) : a ≠ b := by
  intro e; subst e; rw [h] at h'; exact d (Option.some.inj h')
theorem ne_of_none {H : Hp} {a b : Addr} {o : HO} (h : H a = some o) (h' : H b = none) : a ≠ b := by
  intro e; subst e; rw [h] at h'; cases h'
section
variable (P : Program) (w : World)
def ObjOk (H : Hp) (h : Heap) (a : Addr) : HO → Prop
  | .lst xs => xs.length ≤ sizeLine ∧ ∃ (its : List Value) (n : Nat), Vals xs its ∧ h.get? a = some { cls := .type "list", data := .seq its.toArray n }
  | .tup xs => xs.length ≤ sizeLine ∧ ∃ its : List Value, Vals xs its ∧ IsTup h a its.toArray
  | .dK kvs => kvs.length ≤ sizeLine ∧ (a == sysModules) = false ∧ ∃ vs, KV kvs vs ∧ h.DictOf (mixKind P w) a vs
  | .dT kvs => kvs.length ≤ sizeLine ∧ (a == sysModules) = false ∧ ∃ xs : List (List Key × Addr × Value),
      Paired (fun (p : List Key × V) (q : List Key × Addr × Value) => p.1 = q.1 ∧ H q.2.1 = some (.tup (p.1.map kV)) ∧ RelV p.2 q.2.2) kvs xs ∧
      ∃ o es ep, h.get? a = some o ∧ o.ExactDict ∧ o.data = .dict es ep ∧ es.toList = xs.map (entryOfKey (tupleKind (mixKind P w))) ∧ (xs.map (·.1)).Nodup
  | .set S n => h.SetOf (intKind P w) a S n
  | .ins C dx fs => H dx = some (.own a) ∧ fs.length ≤ 1000 ∧ dx ≠ a ∧ h.get? a = some (PySem.W.instObj C dx) ∧
      ∃ mA, h.Ns1 dx mA ∧ (∀ f, RelO (fs.lookup f) (mA f)) ∧ PySem.Within mA (fs.map (·.1))
  | .own _ => ∃ o, h.get? a = some o
  | .xd fs => ∃ mA, h.Ns1 a mA ∧ ∀ f, RelO (fs.lookup f) (mA f)
  | .rng lo hi => ∃ t u v, h.get? a = some { cls := .type "range", data := .fields #[.int lo t, .int hi u, .int 1 v] }
  | .frz o u => h.get? a = some o ∧ ObjOk H h a u
  | .tbl ps => h.get? a = some { cls := .none, data := .fields ps }
  | .met f x => h.get? a = some (PySem.W.methodObj (.ref f) (.ref x))
  | .ext φ => φ h ∧ (∃ o, h.get? a = some o) ∧ ∀ h1 h2 : Heap, φ h1 → (∀ o, h1.get? a = some o → h2.get? a = some o) → φ h2
/-- the abstract heap is held -/
def HOk (H : Hp) (h : Heap) : Prop := ∀ a o, H a = some o → ObjOk P w H h a o
end
section
variable {P : Program} {w : World} {H H' : Hp} {h h' : Heap} {a : Addr} {o : HO}
theorem ObjOk.lt (x : ObjOk P w H h a o) : a < h.objs.size := by
  cases o with
  | lst xs => obtain ⟨_, _, _, _, e⟩ := x; exact Heap.lt_size e
  | tup xs => obtain ⟨_, _, _, p⟩ := x; exact p.lt
  | dK kvs => obtain ⟨_, _, _, _, o, _, _, e, _⟩ := x; exact Heap.lt_size e
  | dT kvs => obtain ⟨_, _, _, _, o, _, _, e, _⟩ := x; exact Heap.lt_size e
  | set S n => obtain ⟨o, _, _, _, e, _⟩ := x; exact Heap.lt_size e
  | ins C dx fs => obtain ⟨_, _, _, e, _⟩ := x; exact Heap.lt_size e
  | own y => obtain ⟨_, e⟩ := x; exact Heap.lt_size e
  | xd fs => obtain ⟨_, ⟨_, _, _, e, _⟩, _⟩ := x; exact Heap.lt_size e
  | rng lo hi => obtain ⟨_, _, _, e⟩ := x; exact Heap.lt_size e
  | frz ob u => obtain ⟨e, _⟩ := x; exact Heap.lt_size e
  | tbl ps => exact Heap.lt_size (show h.get? a = some _ from x)
  | met f y => exact Heap.lt_size (show h.get? a = some _ from x)
  | ext φ => obtain ⟨_, ⟨_, e⟩, _⟩ := x; exact Heap.lt_size e
theorem Paired.mapP {α β : Type} {F G : α → β → Prop} : ∀ {l₁ : List α} {l₂ : List β}, Paired F l₁ l₂ → (∀ a b, F a b → G a b) → Paired G l₁ l₂
  | _, _, .nil, _ => .nil
  | _, _, .cons r t, f => .cons (f _ _ r) (Paired.mapP t f)
/-- what an object's description leans on: its own object, its own dict, the tuples -/
theorem ObjOk.stay (x : ObjOk P w H h a o) (k : ∀ b u, (b = a ∨ H b = some (.own a)) → h.get? b = some u → h'.get? b = some u)
    (ho : ∀ b, H b = some (.own a) → H' b = some (.own a)) (ht : ∀ b xs, H b = some (.tup xs) → H' b = some (.tup xs)) : ObjOk P w H' h' a o := by
  induction o with
  | lst xs => obtain ⟨z, its, n, r, e⟩ := x; exact ⟨z, its, n, r, k _ _ (.inl rfl) e⟩
  | tup xs => obtain ⟨z, its, r, ob, e, c⟩ := x; exact ⟨z, its, r, ob, k _ _ (.inl rfl) e, c⟩
  | dK kvs => obtain ⟨z, y, vs, r, ob, es, ep, e, c⟩ := x; exact ⟨z, y, vs, r, ob, es, ep, k _ _ (.inl rfl) e, c⟩
  | dT kvs =>
    obtain ⟨z, y, xs, r, ob, es, ep, e, c⟩ := x
    exact ⟨z, y, xs, Paired.mapP r fun p q z => ⟨z.1, ht _ _ z.2.1, z.2.2⟩, ob, es, ep, k _ _ (.inl rfl) e, c⟩
  | set S n => obtain ⟨ob, es, ep, t, e, c⟩ := x; exact ⟨ob, es, ep, t, k _ _ (.inl rfl) e, c⟩
  | ins C dx fs =>
    obtain ⟨d, z, ne, e, mA, ⟨od, es, ep, e2, c⟩, r⟩ := x
    exact ⟨ho _ d, z, ne, k _ _ (.inl rfl) e, mA, ⟨od, es, ep, k _ _ (.inr d) e2, c⟩, r⟩
  | own y => obtain ⟨ob, e⟩ := x; exact ⟨ob, k _ _ (.inl rfl) e⟩
  | xd fs => obtain ⟨mA, ⟨od, es, ep, e, c⟩, r⟩ := x; exact ⟨mA, ⟨od, es, ep, k _ _ (.inl rfl) e, c⟩, r⟩
  | rng lo hi => obtain ⟨t, u, v, e⟩ := x; exact ⟨t, u, v, k _ _ (.inl rfl) e⟩
  | frz ob u ih => obtain ⟨e, q⟩ := x; exact ⟨k _ _ (.inl rfl) e, ih q⟩
  | tbl ps =>
    have e : h.get? a = some { cls := .none, data := .fields ps } := x
    show h'.get? a = some { cls := .none, data := .fields ps }
    exact k a _ (.inl rfl) e
  | met f y =>
    have e : h.get? a = some (PySem.W.methodObj (.ref f) (.ref y)) := x
    show h'.get? a = some (PySem.W.methodObj (.ref f) (.ref y))
    exact k a _ (.inl rfl) e
  | ext φ => obtain ⟨p, ⟨o, e⟩, st⟩ := x; exact ⟨st _ _ p fun o q => k _ _ (.inl rfl) q, ⟨o, k _ _ (.inl rfl) e⟩, st⟩
theorem HOk.lt (x : HOk P w H h) (e : H a = some o) : a < h.objs.size := (x a o e).lt
theorem HOk.fresh (x : HOk P w H h) (e : h.objs.size ≤ a) : H a = none := by
  cases q : H a with
  | none => rfl
  | some u => exact absurd (Nat.lt_of_lt_of_le (x.lt q) e) (Nat.lt_irrefl _)
/-- every object of the heap is kept -/
theorem HOk.kept (x : HOk P w H h) (k : ∀ b u, h.get? b = some u → h'.get? b = some u) : HOk P w H h' := fun a o e =>
  (x a o e).stay (fun b u _ q => k b u q) (fun _ q => q) fun _ _ q => q
/-- a new object is laid and tracked -/
theorem HOk.laid (x : HOk P w H h) (k : ∀ b u, h.get? b = some u → h'.get? b = some u) (hp : h.objs.size ≤ a) (new : ObjOk P w (upd H a o) h' a o) : HOk P w (upd H a o) h' := fun b u e => by
  have hn := x.fresh hp
  by_cases hb : b = a
  · subst hb; rw [upd_same] at e; cases e; exact new
  · rw [upd_ne hb] at e
    exact (x b u e).stay (fun c v _ q => k c v q) (fun c q => by rw [upd_ne (ne_of_none q hn)]; exact q) fun c xs q => by rw [upd_ne (ne_of_none q hn)]; exact q
end
/-- what may be read as u: it is u, or a known u -/
def Rd (H : Hp) (a : Addr) (u : HO) : Prop := H a = some u ∨ ∃ o, H a = some (.frz o u)
theorem Rd.of {H : Hp} {a : Addr} {u : HO} (h : H a = some u) : Rd H a u := .inl h
theorem Rd.ok {P : Program} {w : World} {H : Hp} {h : Heap} {a : Addr} {u : HO} (r : Rd H a u) (x : HOk P w H h) : ObjOk P w H h a u := by
  rcases r with r | ⟨o, r⟩
  · exact x a u r
  · obtain ⟨_, q⟩ := x a _ r
    exact q
/-- what may be written -/
def Mut : Option HO → Prop
  | some (.lst _) => True
  | some (.dK _) => True
  | some (.dT _) => True
  | some (.set _ _) => True
  | some (.ins _ _ _) => True
  | some (.ext _) => True
  | _ => False
section
variable {P : Program} {w : World} {H : Hp} {h h' : Heap} {x e : Addr} {o' : HO}
/-- the object at e is changed: x itself, or the dict of the instance x -/
theorem HOk.write (ok : HOk P w H h) (mu : Mut (H x)) (he : e = x ∨ H e = some (.own x)) (k : ∀ b u, b ≠ e → h.get? b = some u → h'.get? b = some u) (heo : ∃ u, h'.get? e = some u)
    (new : ObjOk P w (upd H x o') h' x o') : HOk P w (upd H x o') h' := fun b u q => by
  have nown : ∀ c y, H c = some (.own y) → c ≠ x := fun c y r z => by subst z; rw [r] at mu; exact mu
  have ntup : ∀ c xs, H c = some (.tup xs) → c ≠ x := fun c xs r z => by subst z; rw [r] at mu; exact mu
  by_cases hb : b = x
  · subst hb; rw [upd_same] at q; cases q; exact new
  · rw [upd_ne hb] at q
    by_cases hbe : b = e
    · have q' : H b = some (.own x) := by
        rcases he with z | z
        · exact absurd (hbe.trans z) hb
        · rw [hbe]; exact z
      rw [q] at q'; cases q'
      obtain ⟨v, hv⟩ := heo
      exact ⟨v, by rw [hbe]; exact hv⟩
    · refine (ok b u q).stay (fun c v hc r => k c v ?_ r) (fun c r => by rw [upd_ne (nown c b r)]; exact r) fun c xs r => by rw [upd_ne (ntup c xs r)]; exact r
      rcases hc with rfl | hc
      · exact hbe
      · rintro rfl
        rcases he with z | z
        · exact nown c b hc z
        · rw [hc] at z; cases z; exact hb rfl
end
/-! ### kept unless tracked; of the frames at fs (the callers') the slots may change (an exception that passes writes there); of the records at ex (iterators) nothing is said -/
structure Un (fs ex : List Addr) (H H' : Hp) (h h' : Heap) : Prop where
  keep : ∀ b o, h.get? b = some o → H b = none → b ∉ fs → b ∉ ex → h'.get? b = some o
  slot : ∀ b o, h.get? b = some o → H b = none → b ∈ fs → b ∉ ex → ∃ sl, h'.get? b = some { o with slots := sl }
  free : ∀ b o, h.get? b = some o → H b = none → b ∉ ex → H' b = none
  there : ∀ b o, h.get? b = some o → b ∉ ex → ∃ o', h'.get? b = some o'
  tups : ∀ b xs, H b = some (.tup xs) → H' b = some (.tup xs)
  frzs : ∀ b o u, H b = some (.frz o u) → H' b = some (.frz o u)
  tbls : ∀ b ps, H b = some (.tbl ps) → ∃ more, H' b = some (.tbl (ps ++ more))
section
variable {fs fs' ex ex' : List Addr} {H H1 H2 : Hp} {h h1 h2 h' : Heap} {a x e : Addr} {o : HO}
theorem Un.any (u : Un fs ex H H1 h h1) {b : Addr} {ob : Obj} (q : h.get? b = some ob) (n : H b = none) (hx : b ∉ ex) : ∃ sl, h1.get? b = some { ob with slots := sl } := by
  by_cases hb : b ∈ fs
  · exact u.slot b ob q n hb hx
  · exact ⟨ob.slots, u.keep b ob q n hb hx⟩
theorem Un.trans (a : Un fs ex H H1 h h1) (b : Un fs ex H1 H2 h1 h2) : Un fs ex H H2 h h2 where
  keep := fun c ob q n hc hx => b.keep c ob (a.keep c ob q n hc hx) (a.free c ob q n hx) hc hx
  slot := fun c ob q n hc hx => by
    obtain ⟨sl, e1⟩ := a.slot c ob q n hc hx
    obtain ⟨sl', e2⟩ := b.slot c _ e1 (a.free c ob q n hx) hc hx
    exact ⟨sl', e2⟩
  free := fun c ob q n hx => by
    obtain ⟨o', e1⟩ := a.there c ob q hx
    exact b.free c o' e1 (a.free c ob q n hx) hx
  there := fun c ob q hx => by
    obtain ⟨o', e1⟩ := a.there c ob q hx
    exact b.there c o' e1 hx
  tups := fun c xs q => b.tups c xs (a.tups c xs q)
  frzs := fun c ob xs q => b.frzs c ob xs (a.frzs c ob xs q)
  tbls := fun c ps q => by
    obtain ⟨m1, e1⟩ := a.tbls c ps q
    obtain ⟨m2, e2⟩ := b.tbls c _ e1
    exact ⟨m1 ++ m2, by rw [e2, Array.append_assoc]⟩
theorem Un.kept (k : ∀ b u, h.get? b = some u → h'.get? b = some u) : Un fs ex H H h h' :=
  ⟨fun b ob q _ _ _ => k b ob q, fun b ob q _ _ _ => ⟨ob.slots, k b ob q⟩, fun _ _ _ n _ => n, fun b ob q _ => ⟨ob, k b ob q⟩, fun _ _ q => q, fun _ _ _ q => q, fun _ ps q => ⟨#[], by rw [q]; simp⟩⟩
theorem Un.refl : Un fs ex H H h h := Un.kept fun _ _ q => q
theorem Un.laid (k : ∀ b u, h.get? b = some u → h'.get? b = some u) (hp : h.objs.size ≤ a) (hn : H a = none) : Un fs ex H (upd H a o) h h' where
  keep := fun b u q _ _ _ => k b u q
  slot := fun b u q _ _ _ => ⟨u.slots, k b u q⟩
  free := fun b u q n _ => by rw [upd_ne (Nat.ne_of_lt (Nat.lt_of_lt_of_le (Heap.lt_size q) hp))]; exact n
  there := fun b u q _ => ⟨u, k b u q⟩
  tups := fun b xs q => by rw [upd_ne (ne_of_none q hn)]; exact q
  frzs := fun b u xs q => by rw [upd_ne (ne_of_none q hn)]; exact q
  tbls := fun b ps q => ⟨#[], by rw [upd_ne (ne_of_none q hn), q]; simp⟩
theorem Un.write (mu : Mut (H x)) (he : e = x ∨ H e = some (.own x)) (k : ∀ b u, b ≠ e → h.get? b = some u → h'.get? b = some u) (heo : ∃ u, h'.get? e = some u) : Un fs ex H (upd H x o) h h' := by
  have hx : ∀ b, H b = none → b ≠ x := fun b n z => by subst z; rw [n] at mu; exact mu
  have hb : ∀ b, H b = none → b ≠ e := fun b n z => by
    subst z
    rcases he with r | r
    · exact hx b n r
    · rw [n] at r; cases r
  have hm : ∀ b u, H b = some u → ¬ Mut (some u) → b ≠ x := fun b u q nm z => by subst z; rw [q] at mu; exact nm mu
  refine ⟨fun b u q n _ _ => k b u (hb b n) q, fun b u q n _ _ => ⟨u.slots, k b u (hb b n) q⟩, fun b u q n _ => by rw [upd_ne (hx b n)]; exact n, fun b u q _ => ?_,
    fun b xs q => by rw [upd_ne (hm b _ q fun z => z)]; exact q, fun b u xs q => by rw [upd_ne (hm b _ q fun z => z)]; exact q, fun b ps q => ⟨#[], by rw [upd_ne (hm b _ q fun z => z), q]; simp⟩⟩
  by_cases hbe : b = e
  · subst hbe; exact heo
  · exact ⟨u, k b u hbe q⟩
theorem Un.mono (u : Un fs ex H H1 h h1) (hs : ∀ b ∈ fs, b ∈ fs') (hx : ∀ b ∈ ex, b ∈ ex') : Un fs' ex' H H1 h h1 :=
  ⟨fun b ob q n hb he => u.keep b ob q n (fun z => hb (hs b z)) fun z => he (hx b z), fun _ _ q n _ he => u.any q n fun z => he (hx _ z), fun b ob q n he => u.free b ob q n fun z => he (hx b z), fun b ob q he => u.there b ob q fun z => he (hx b z), u.tups, u.frzs, u.tbls⟩
end
/-! ### the heap without what is tracked -/
def trk (h : Heap) (H : Hp) : List Addr := (List.range h.objs.size).filter fun a => (H a).isSome
def hidT (h : Heap) (H : Hp) : Heap := PySem.W.hideAll h (trk h H)
theorem hidT_size (h : Heap) (H : Hp) : (hidT h H).objs.size = h.objs.size := PySem.W.hideAll_size _ _
theorem hidT_get {h : Heap} {H : Hp} {b : Addr} {o : Obj} (e : h.get? b = some o) (n : H b = none) : (hidT h H).get? b = some o :=
  PySem.W.hideAll_get _ e fun hm => by
    have q : (H b).isSome = true := (List.mem_filter.mp hm).2
    rw [n] at q; simp at q
theorem of_hidT {h : Heap} {H : Hp} {b : Addr} {o : Obj} (e : (hidT h H).get? b = some o) : h.get? b = some o ∧ H b = none := by
  have e' : h.get? b = some o := PySem.W.of_hideAll (trk h H) e
  refine ⟨e', ?_⟩
  cases q : H b with
  | none => rfl
  | some x =>
    have hm : b ∈ trk h H := List.mem_filter.mpr ⟨List.mem_range.mpr (Heap.lt_size e'), by simp [q]⟩
    have z : (hidT h H).get? b = none := PySem.W.hideAll_none (trk h H) hm
    rw [z] at e; cases e
/-! ### OpenK's ledger, filled with every new object but one -/
def allNews (g h : Heap) (L : Addr) : List (Addr × Obj) := (List.range h.objs.size).filterMap fun a => if a = L ∨ (g.get? a).isSome = true then none else (h.get? a).map fun o => (a, o)
def rest (g h : Heap) (L d : Addr) : List (Addr × Obj) := (allNews g h L).filter fun p => decide (p.1 ≠ d)
end L2
namespace L2
open PySem PySem.Spec PyProof.Rows
/-- the module's facts, over the base: the heap at the law's entry without what is tracked there -/
structure Mod (K : PySem.W.Frag) (mg : Str → Option Value) (base : Heap) : Prop where
  kin : K.In base
  glob : base.Ns mainGlobals mg
  blt : ∃ mb, base.Ns builtinsNs mb ∧ ∀ x : Str, x ≠ "__name__" → mb x = bootBuiltins x
  nolimit : base.NoLimit
/-- the context: a def's body (or a comprehension's block) running. base: fixed through the whole law; s₀, H₀: the entry; outer: the frames whose slots others may change (a def's callers); stack: all frames that run;
   ex: iterators that were made ahead of the entry and are walked here (a comprehension's); fn: the names whose cells were made at the entry (a def: all; a comprehension's block: its own); calm: not within an except suite; pn: pins that every state bears; xe: what is wanted of an exception that leaves the code -/
structure Cx where
  prog : Program
  w : World
  K : PySem.W.Frag
  mg : Str → Option Value
  base : Heap
  A : Around
  N : List Str
  s_0 : Shared
  H_0 : Hp
  env : Env
  outer : List Env
  stack : List Env
  ex : List Addr
  fn : Str → Bool
  calm : Bool
  pn : List (Addr × Obj)
  xe : Value → Shared → Prop
/-- the callers' frames -/
def frs (l : List Env) : List Addr := l.filterMap (·.frame)
abbrev Cx.fs (X : Cx) : List Addr := frs X.outer
def Vis (sc : Scope) (x : Str) : Prop := sc.names.lookup x = some .local ∨ sc.names.lookup x = some .cell ∨ sc.names.lookup x = some .free
def Loc (sc : Scope) (x : Str) : Prop := sc.names.lookup x = some .local ∨ sc.names.lookup x = some .cell
def Look (env : Env) (h : Heap) (m : Str → Option Value) (x : Str) (u : Value) : Prop :=
  (env.kindOf x = some .local ∧ m x = some u) ∨ ((env.kindOf x = some .cell ∨ env.kindOf x = some .free) ∧ ∃ c, env.cells.lookup x = some c ∧ h.IsCell c (some u))
structure Cx.Ok (X : Cx) : Prop where
  mod : Mod X.K X.mg X.base
  kind : X.env.scope.kind = .function
  glob : X.env.globals = mainGlobals
  blt : X.env.builtins = builtinsNs
  above : X.s_0.heap.objs.size ≤ X.env.locals
  inj : ∀ x y c, X.env.cells.lookup x = some c → X.env.cells.lookup y = some c → x = y
  has : ∀ x, (X.env.kindOf x = some .cell ∨ X.env.kindOf x = some .free) → ∃ c, X.env.cells.lookup x = some c
  cab : ∀ x c, X.fn x = true → X.env.cells.lookup x = some c → X.s_0.heap.objs.size ≤ c
  hd : X.calm = true → X.A.handled = none
  frames : X.A.frames = some X.stack
  stk : X.stack = X.outer ∨ (X.stack = X.env :: X.outer ∧ X.env.frame = some X.env.locals)
  exf : ∀ b ∈ X.ex, b ≠ X.env.locals ∧ ∀ x c, X.env.cells.lookup x = some c → c ≠ b
  bs : ∀ b o, X.base.get? b = some o → X.s_0.heap.get? b = some o ∧ X.H_0 b = none
  bsz : X.base.objs.size ≤ X.s_0.heap.objs.size
  noex : ∀ b o, X.base.get? b = some o → b ∉ X.ex
  exfs : ∀ b ∈ X.ex, b ∉ X.fs
  funs : X.s_0.heap.FunFrames X.base X.outer
  frf : ∀ b ∈ X.fs, X.H_0 b = none
structure Inv (X : Cx) (pins : List (Addr × Obj)) (σ : List (Option V)) (H : Hp) (s : Shared) : Prop where
  ok : X.Ok
  os : s.os = X.s_0.os
  bare : AllBare s.gens
  base : Un X.fs X.ex X.H_0 H X.s_0.heap s.heap
  loc : ∃ m, s.heap.Ns X.env.locals m ∧ ∀ (i : Nat) (x : Str) (v : V), X.N[i]? = some x → σ[i]? = some (some v) → Vis X.env.scope x → ∃ u, RelV v u ∧ Look X.env s.heap m x u
  cell : ∀ x c, X.env.cells.lookup x = some c → ∃ v, s.heap.IsCell c v
  free : H X.env.locals = none
  freeC : ∀ x c, X.env.cells.lookup x = some c → H c = none
  pin : ∀ p ∈ X.pn ++ pins, s.heap.get? p.1 = some p.2 ∧ H p.1 = none ∧ p.1 ≠ X.env.locals ∧ p.1 ∉ X.fs ∧ ∀ v, p.2.data ≠ .cell v
  hok : HOk X.prog X.w H s.heap
  len : σ.length = X.N.length
section
variable {X : Cx} {pins : List (Addr × Obj)} {σ : List (Option V)} {H H' : Hp} {s : Shared} {h' : Heap}
theorem Cx.Ok.nofr (ok : X.Ok) {b : Addr} {o : Obj} (e : X.base.get? b = some o) : b ∉ X.fs := fun hb => by
  have := (ok.funs.mem hb).1
  rw [e] at this; cases this
theorem Inv.bs (I : Inv X pins σ H s) : ∀ b o, X.base.get? b = some o → s.heap.get? b = some o ∧ H b = none := fun b o e =>
  ⟨I.base.keep b o (I.ok.bs b o e).1 (I.ok.bs b o e).2 (I.ok.nofr e) (I.ok.noex b o e), I.base.free b o (I.ok.bs b o e).1 (I.ok.bs b o e).2 (I.ok.noex b o e)⟩
theorem Inv.bk (I : Inv X pins σ H s) : ∀ b o, X.base.get? b = some o → s.heap.get? b = some o := fun b o e => (I.bs b o e).1
theorem Inv.mod (I : Inv X pins σ H s) : Mod X.K X.mg X.base := I.ok.mod
theorem Inv.kIn (I : Inv X pins σ H s) : X.K.In s.heap := I.ok.mod.kin.keeps I.bk
theorem Inv.nolimit (I : Inv X pins σ H s) : s.heap.NoLimit := I.ok.mod.nolimit.keeps I.bk
/-- the frame over the base: for OpenK's rules (K.In X.base is I.mod.kin) -/
theorem Inv.fr (I : Inv X pins σ H s) : ∃ m, Fr X.base X.env.locals s.heap m :=
  let ⟨m, hn, _⟩ := I.loc
  ⟨m, hn, I.bk, Nat.le_trans I.ok.bsz I.ok.above⟩
theorem Inv.lt (I : Inv X pins σ H s) : X.env.locals < s.heap.objs.size := let ⟨_, hn, _⟩ := I.loc; hn.lt
theorem Inv.sz (I : Inv X pins σ H s) : X.s_0.heap.objs.size ≤ s.heap.objs.size := Nat.le_trans I.ok.above (Nat.le_of_lt I.lt)
theorem Inv.nofs (I : Inv X pins σ H s) {a : Addr} (h : s.heap.objs.size ≤ a) : a ∉ X.fs := fun hb => by
  obtain ⟨_, o, ho, _⟩ := I.ok.funs.mem hb
  exact absurd (Nat.lt_of_lt_of_le (Heap.lt_size ho) (Nat.le_trans I.sz h)) (Nat.lt_irrefl _)
theorem Inv.cne (I : Inv X pins σ H s) : ∀ x c, X.env.cells.lookup x = some c → c ≠ X.env.locals := fun x c e z => by
  obtain ⟨v, o, ho, hd⟩ := I.cell x c e
  obtain ⟨m, ⟨o', es, ep, ho', hd', _⟩, _⟩ := I.loc
  rw [z, ho'] at ho; cases ho; rw [hd'] at hd; cases hd
theorem Inv.funs (I : Inv X pins σ H s) : s.heap.FunFrames X.base X.outer := by
  have all : ∀ (l : List Env), (∀ b ∈ frs l, b ∈ X.fs) → X.s_0.heap.FunFrames X.base l → s.heap.FunFrames X.base l := by
    intro l
    induction l with
    | nil => intro _ _; trivial
    | cons env r ih =>
      intro hs hl
      obtain ⟨hk, ⟨L, o, hf, hn, ho, hd⟩, hr⟩ := hl
      have hL : L ∈ X.fs := hs L (by unfold frs; rw [List.filterMap_cons, hf]; exact List.mem_cons_self)
      obtain ⟨sl, e⟩ := I.base.slot L o ho (I.ok.frf L hL) hL fun z => I.ok.exfs L z hL
      exact ⟨hk, ⟨L, _, hf, hn, e, hd⟩, ih (fun b hb => hs b (by unfold frs; rw [List.filterMap_cons, hf]; exact List.mem_cons_of_mem _ hb)) hr⟩
  exact all X.outer (fun _ hb => hb) I.ok.funs
/-- the frames that run, for a call -/
theorem Inv.stack (I : Inv X pins σ H s) : s.heap.FunFrames X.base X.stack := by
  rcases I.ok.stk with e | ⟨e, hf⟩
  · rw [e]; exact I.funs
  · rw [e]
    obtain ⟨m, hn, _⟩ := I.loc
    refine .cons (by rw [I.ok.kind]; decide) hf hn ?_ I.funs
    exact Heap.get?_none_of_le (Nat.le_trans I.ok.bsz I.ok.above)
theorem Inv.stkSub (I : Inv X pins σ H s) : ∀ b ∈ frs X.stack, b ∈ X.env.locals :: X.fs := fun b hb => by
  rcases I.ok.stk with e | ⟨e, hf⟩
  · rw [e] at hb; exact List.mem_cons_of_mem _ hb
  · rw [e] at hb
    unfold frs at hb
    rw [List.filterMap_cons, hf] at hb
    exact hb
theorem Inv.stkFree (I : Inv X pins σ H s) : ∀ b ∈ frs X.stack, H b = none := fun b hb => by
  rcases List.mem_cons.mp (I.stkSub b hb) with e | hb
  · rw [e]; exact I.free
  · obtain ⟨_, o, ho, _⟩ := I.ok.funs.mem hb
    exact I.base.free b o ho (I.ok.frf b hb) fun z => I.ok.exfs b z hb
/-- THE STEP: the untracked objects but the frame and the records at ch are kept (the callers' frames up to slots), the frame's map is kept, the new abstract heap is held -/
theorem Inv.step {g' : Array GenState} {t' : Nat} {d' : Drawn} {ch : List Addr} (I : Inv X pins σ H s)
    (hch : ∀ b ∈ ch, (b ∈ X.ex ∨ X.s_0.heap.objs.size ≤ b) ∧ b ≠ X.env.locals ∧ (∀ x c, X.env.cells.lookup x = some c → c ≠ b) ∧ ∀ p ∈ X.pn ++ pins, p.1 ≠ b)
    (keep : ∀ b o, b ≠ X.env.locals → b ∉ X.fs → b ∉ ch → s.heap.get? b = some o → H b = none → h'.get? b = some o)
    (slot : ∀ b o, b ≠ X.env.locals → b ∈ X.fs → b ∉ ch → s.heap.get? b = some o → H b = none → ∃ sl, h'.get? b = some { o with slots := sl }) (free : ∀ b o, b ∉ ch → s.heap.get? b = some o → H b = none → H' b = none)
    (there : ∀ b o, b ∉ ch → s.heap.get? b = some o → ∃ o', h'.get? b = some o')
    (tups : ∀ b xs, H b = some (.tup xs) → H' b = some (.tup xs)) (frzs : ∀ b o u, H b = some (.frz o u) → H' b = some (.frz o u)) (tbls : ∀ b ps, H b = some (.tbl ps) → ∃ more, H' b = some (.tbl (ps ++ more)))
    (ns : ∀ m, s.heap.Ns X.env.locals m → h'.Ns X.env.locals m) (hok : HOk X.prog X.w H' h') (hg : AllBare g') :
    Inv X pins σ H' { s with heap := h', gens := g', drawn := d', toks := t' } := by
  have neL : ∀ b o, X.s_0.heap.get? b = some o → b ≠ X.env.locals := fun b o e => Nat.ne_of_lt (Nat.lt_of_lt_of_le (Heap.lt_size e) I.ok.above)
  have neC : ∀ b o, X.s_0.heap.get? b = some o → b ∉ X.ex → b ∉ ch := fun b o e hx hb => by
    rcases (hch b hb).1 with z | z
    · exact hx z
    · exact absurd (Nat.lt_of_lt_of_le (Heap.lt_size e) z) (Nat.lt_irrefl _)
  have cellK : ∀ x c, X.env.cells.lookup x = some c → ∀ v, s.heap.IsCell c v → h'.IsCell c v := fun x c e v ⟨o, ho, hd⟩ => by
    have nch : c ∉ ch := fun z => (hch c z).2.2.1 x c e rfl
    by_cases hc : c ∈ X.fs
    · obtain ⟨sl, q⟩ := slot c o (I.cne x c e) hc nch ho (I.freeC x c e)
      exact ⟨_, q, hd⟩
    · exact ⟨o, keep c o (I.cne x c e) hc nch ho (I.freeC x c e), hd⟩
  refine ⟨I.ok, I.os, hg, ⟨fun b o e n hb hx => ?_, fun b o e n hb hx => ?_, fun b o e n hx => ?_, fun b o e hx => ?_, fun b xs e => tups b xs (I.base.tups b xs e), fun b o xs e => frzs b o xs (I.base.frzs b o xs e), fun b ps e => ?_⟩, ?_, fun x c e => ?_, ?_, fun x c e => ?_, fun p hp => ?_, hok, I.len⟩
  · exact keep b o (neL b o e) hb (neC b o e hx) (I.base.keep b o e n hb hx) (I.base.free b o e n hx)
  · obtain ⟨sl, e1⟩ := I.base.slot b o e n hb hx
    obtain ⟨sl', e2⟩ := slot b _ (neL b o e) hb (neC b o e hx) e1 (I.base.free b o e n hx)
    exact ⟨sl', e2⟩
  · obtain ⟨o', e1⟩ := I.base.there b o e hx
    exact free b o' (neC b o e hx) e1 (I.base.free b o e n hx)
  · obtain ⟨o', e1⟩ := I.base.there b o e hx
    exact there b o' (neC b o e hx) e1
  · obtain ⟨m1, e1⟩ := I.base.tbls b ps e
    obtain ⟨m2, e2⟩ := tbls b _ e1
    exact ⟨m1 ++ m2, by rw [e2, Array.append_assoc]⟩
  · obtain ⟨m, hn, hl⟩ := I.loc
    refine ⟨m, ns m hn, fun i x v e1 e2 e3 => ?_⟩
    obtain ⟨u, r, l⟩ := hl i x v e1 e2 e3
    refine ⟨u, r, ?_⟩
    rcases l with l | ⟨k, c, e, z⟩
    · exact .inl l
    · exact .inr ⟨k, c, e, cellK x c e _ z⟩
  · obtain ⟨v, z⟩ := I.cell x c e
    exact ⟨v, cellK x c e v z⟩
  · obtain ⟨m, ⟨o, _, _, ho, _⟩, _⟩ := I.loc
    exact free _ o (fun z => (hch _ z).2.1 rfl) ho I.free
  · obtain ⟨v, o, ho, hd⟩ := I.cell x c e
    exact free c o (fun z => (hch c z).2.2.1 x c e rfl) ho (I.freeC x c e)
  · obtain ⟨e, n, ne, nf, d⟩ := I.pin p hp
    have nch : p.1 ∉ ch := fun z => (hch p.1 z).2.2.2 p hp rfl
    exact ⟨keep p.1 p.2 ne nf nch e n, free p.1 p.2 nch e n, ne, nf, d⟩
/-- .. where the frame's own object is kept too -/
theorem Inv.un {t' : Nat} (I : Inv X pins σ H s) (u : Un X.fs [] H H' s.heap h') (hok : HOk X.prog X.w H' h') : Inv X pins σ H' { s with heap := h', toks := t' } := by
  obtain ⟨m, ⟨o, es, ep, ho, r⟩, _⟩ := id I.loc
  obtain ⟨sl, hL⟩ := u.any ho I.free (by simp)
  exact I.step (g' := s.gens) (d' := s.drawn) (ch := []) (fun _ z => nomatch z) (fun b o _ hb _ e n => u.keep b o e n hb (by simp)) (fun b o _ hb _ e n => u.slot b o e n hb (by simp)) (fun b o _ e n => u.free b o e n (by simp)) (fun b o _ e => u.there b o e (by simp)) u.tups u.frzs u.tbls (fun m' hm => by
    obtain ⟨o', es', ep', ho', r'⟩ := hm
    rw [ho] at ho'; cases ho'
    exact ⟨_, es', ep', hL, r'⟩) hok I.bare
/-- behind a call (or a comprehension's block): the slots of this frame may have changed too, the records at ch may have turned -/
theorem Inv.call {g' : Array GenState} {t' : Nat} {d' : Drawn} {ch : List Addr} (I : Inv X pins σ H s) (u : Un (frs X.stack) ch H H' s.heap h') (hok : HOk X.prog X.w H' h') (hg : AllBare g')
    (hch : ∀ b ∈ ch, (b ∈ X.ex ∨ X.s_0.heap.objs.size ≤ b) ∧ b ≠ X.env.locals ∧ (∀ x c, X.env.cells.lookup x = some c → c ≠ b) ∧ ∀ p ∈ X.pn ++ pins, p.1 ≠ b) :
    Inv X pins σ H' { s with heap := h', gens := g', drawn := d', toks := t' } := by
  obtain ⟨m, ⟨o, es, ep, ho, r⟩, _⟩ := id I.loc
  obtain ⟨sl, hL⟩ := u.any ho I.free fun z => (hch _ z).2.1 rfl
  exact I.step (ch := ch) hch (fun b o hL hb hc e n => u.keep b o e n (fun z => (List.mem_cons.mp (I.stkSub b z)).elim hL hb) hc) (fun b o _ _ hc e n => u.any e n hc) (fun b o hc e n => u.free b o e n hc) (fun b o hc e => u.there b o e hc) u.tups u.frzs u.tbls (fun m' hm => by
    obtain ⟨o', es', ep', ho', r'⟩ := hm
    rw [ho] at ho'; cases ho'
    exact ⟨_, es', ep', hL, r'⟩) hok hg
/-- an untracked record of ours (an iterator) has turned -/
theorem Inv.turned {t' : Nat} {it : Addr} (I : Inv X pins σ H s) (k : ∀ b o, b ≠ it → s.heap.get? b = some o → h'.get? b = some o) (hn : H it = none) (hL : it ≠ X.env.locals)
    (h1 : it ∈ X.ex ∨ X.s_0.heap.objs.size ≤ it) (h2 : ∀ x c, X.env.cells.lookup x = some c → c ≠ it) (h3 : ∀ p ∈ X.pn ++ pins, p.1 ≠ it) : Inv X pins σ H { s with heap := h', toks := t' } := by
  have nit : ∀ b u, H b = some u → b ≠ it := fun b u e z => by rw [z, hn] at e; cases e
  refine I.step (g' := s.gens) (d' := s.drawn) (ch := [it]) (fun b hb => ?_) (fun b o _ _ hc e _ => k b o (fun z => hc (by simp [z])) e) (fun b o _ _ hc e _ => ⟨o.slots, k b o (fun z => hc (by simp [z])) e⟩) (fun _ _ _ _ n => n)
    (fun b o hc e => ⟨o, k b o (fun z => hc (by simp [z])) e⟩) (fun _ _ e => e) (fun _ _ _ e => e) (fun b ps e => ⟨#[], by rw [e]; simp⟩) (fun m hm => ?_) (fun b u e => ?_) I.bare
  · have e : b = it := by simpa using hb
    subst e
    exact ⟨h1, hL, h2, h3⟩
  · obtain ⟨o, es, ep, ho, r⟩ := hm
    exact ⟨o, es, ep, k _ o (Ne.symm hL) ho, r⟩
  · refine (I.hok b u e).stay (fun c v hc q => k c v ?_ q) (fun _ q => q) fun _ _ q => q
    rcases hc with z | z
    · rw [z]; exact nit b u e
    · exact nit c _ z
theorem Inv.tok (I : Inv X pins σ H s) (t : Nat) : Inv X pins σ H { s with toks := t } := I.un (h' := s.heap) (t' := t) Un.refl I.hok
/-- all objects kept -/
theorem Inv.kept {t' : Nat} (I : Inv X pins σ H s) (k : ∀ b u, s.heap.get? b = some u → h'.get? b = some u) : Inv X pins σ H { s with heap := h', toks := t' } := I.un (Un.kept k) (I.hok.kept k)
/-- a new object laid and tracked -/
theorem Inv.laid {a : Addr} {o : HO} {t' : Nat} (I : Inv X pins σ H s) (k : ∀ b u, s.heap.get? b = some u → h'.get? b = some u) (hp : s.heap.objs.size ≤ a) (new : ObjOk X.prog X.w (upd H a o) h' a o) :
    Inv X pins σ (upd H a o) { s with heap := h', toks := t' } := I.un (Un.laid k hp (I.hok.fresh hp)) (I.hok.laid k hp new)
/-- an object written -/
theorem Inv.write {x e : Addr} {o : HO} {t' : Nat} (I : Inv X pins σ H s) (mu : Mut (H x)) (he : e = x ∨ H e = some (.own x)) (k : ∀ b u, b ≠ e → s.heap.get? b = some u → h'.get? b = some u) (heo : ∃ u, h'.get? e = some u)
    (new : ObjOk X.prog X.w (upd H x o) h' x o) : Inv X pins σ (upd H x o) { s with heap := h', toks := t' } := I.un (Un.write mu he k heo) (I.hok.write mu he k heo new)
/-- forgetting slots, pins -/
theorem Inv.weak {σ' : List (Option V)} (I : Inv X pins σ H s) (hl : σ'.length = σ.length) (w : ∀ (i : Nat) v, σ'[i]? = some (some v) → σ[i]? = some (some v)) : Inv X pins σ' H s :=
  ⟨I.ok, I.os, I.bare, I.base, let ⟨m, hn, hl'⟩ := I.loc; ⟨m, hn, fun i x v e1 e2 e3 => hl' i x v e1 (w i v e2) e3⟩, I.cell, I.free, I.freeC, I.pin, I.hok, hl.trans I.len⟩
theorem Inv.pins_of {pins' : List (Addr × Obj)} (I : Inv X pins σ H s) (h : ∀ p ∈ pins', s.heap.get? p.1 = some p.2 ∧ H p.1 = none ∧ p.1 ≠ X.env.locals ∧ p.1 ∉ X.fs ∧ ∀ v, p.2.data ≠ .cell v) : Inv X pins' σ H s :=
  ⟨I.ok, I.os, I.bare, I.base, I.loc, I.cell, I.free, I.freeC, fun p hp => (List.mem_append.mp hp).elim (fun z => I.pin p (List.mem_append_left _ z)) (h p), I.hok, I.len⟩
theorem nodup_ix {N : List Str} (hN : N.Nodup) {i j : Nat} {x : Str} (a : N[i]? = some x) (b : N[j]? = some x) : i = j := by
  obtain ⟨h1, e1⟩ := List.getElem?_eq_some_iff.mp a
  obtain ⟨h2, e2⟩ := List.getElem?_eq_some_iff.mp b
  exact (List.getElem_inj hN).mp (e1.trans e2.symm)
/-- a name is stored; what changed -/
theorem store_ok2 {M : Model} {A : Around} {E : Value → Shared → Prop} {i : Nat} {x : Str} {v : V} {u : Value} {Q : Unit → Shared → Prop} (I : Inv X pins σ H s) (hN : X.N.Nodup) (hi : X.N[i]? = some x) (hx : Loc X.env.scope x) (r : RelV v u)
    (h : ∀ s', Inv X pins (σ.set i (some v)) H s' → (∃ a, Heap.SameBut a s.heap s'.heap ∧ (a = X.env.locals ∨ X.env.cells.lookup x = some a)) → Q () s') (hf : X.fn x = true ∨ X.env.scope.names.lookup x = some .local := by first | exact .inl rfl | exact .inr rfl | assumption) : wpAny M A (storeName X.env x u) Q E s := by
  obtain ⟨m, hn, hl⟩ := id I.loc
  have hcls : (X.env.scope.kind == .class || (X.env.scope.kind == .module && X.env.locals != X.env.globals)) = false := by rw [I.ok.kind]; rfl
  have hiσ : i < σ.length := by rw [I.len]; exact (List.getElem?_eq_some_iff.mp hi).1
  have cne := I.cne
  have tracked : ∀ {a : Addr} {h' : Heap}, (∃ o, s.heap.get? a = some o ∧ H a = none) → Heap.SameBut a s.heap h' → HOk X.prog X.w H h' := fun {a h'} ha hs b ob e => by
    obtain ⟨_, _, hfree⟩ := ha
    refine (I.hok b ob e).stay (fun c w' hc q => (hs.2 c ?_).trans q) (fun _ q => q) fun _ _ q => q
    rintro rfl
    rcases hc with rfl | hc
    · rw [hfree] at e; cases e
    · rw [hfree] at hc; cases hc
  rcases hx with hk | hk
  · refine wpAny_storeName_local hk hn (fun h' hn' hs => ?_) hcls
    obtain ⟨oL, _, _, hoL, _⟩ := id hn
    refine h _ ⟨I.ok, I.os, I.bare, ⟨fun b o e n hb hx => ?_, fun b o e n hb hx => ?_, I.base.free, fun b o e hx => ?_, I.base.tups, I.base.frzs, I.base.tbls⟩, ⟨_, hn', fun j y v' e1 e2 e3 => ?_⟩, fun y c e => ?_, I.free, I.freeC, fun p hp => ?_, tracked ⟨oL, hoL, I.free⟩ hs, by simpa using I.len⟩ ⟨_, hs, .inl rfl⟩
    · exact (hs.2 b (Nat.ne_of_lt (Nat.lt_of_lt_of_le (Heap.lt_size e) I.ok.above))).trans (I.base.keep b o e n hb hx)
    · obtain ⟨sl, e1⟩ := I.base.slot b o e n hb hx
      exact ⟨sl, (hs.2 b (Nat.ne_of_lt (Nat.lt_of_lt_of_le (Heap.lt_size e) I.ok.above))).trans e1⟩
    · obtain ⟨o', e1⟩ := I.base.there b o e hx
      exact ⟨o', (hs.2 b (Nat.ne_of_lt (Nat.lt_of_lt_of_le (Heap.lt_size e) I.ok.above))).trans e1⟩
    · by_cases hj : j = i
      · subst hj
        rw [hi] at e1; cases e1
        rw [List.getElem?_set_self hiσ] at e2
        cases e2
        exact ⟨u, r, .inl ⟨hk, by simp⟩⟩
      · rw [List.getElem?_set_ne (Ne.symm hj)] at e2
        obtain ⟨u', r', q⟩ := hl j y v' e1 e2 e3
        refine ⟨u', r', ?_⟩
        rcases q with ⟨k, e⟩ | ⟨k, c, e, z⟩
        · refine .inl ⟨k, ?_⟩
          have : y ≠ x := fun e => hj (nodup_ix hN e1 (e ▸ hi))
          simp [this, e]
        · exact .inr ⟨k, c, e, z.sameBut hs (cne y c e)⟩
    · obtain ⟨w', z⟩ := I.cell y c e
      exact ⟨w', z.sameBut hs (cne y c e)⟩
    · obtain ⟨e, n, ne, nf, d⟩ := I.pin p hp
      exact ⟨(hs.2 p.1 ne).trans e, n, ne, nf, d⟩
  · have hfn : X.fn x = true := by
      rcases hf with z | z
      · exact z
      · rw [z] at hk; cases hk
    obtain ⟨c, hc⟩ := I.ok.has x (.inl hk)
    obtain ⟨w', z⟩ := I.cell x c hc
    refine wpAny_storeName_cell I.ok.kind hk hc z (fun h' hc' hs => ?_)
    obtain ⟨oc, hoc, hocd⟩ := id z
    refine h { s with heap := h' } ⟨I.ok, I.os, I.bare, ⟨fun b o e n hb hx => ?_, fun b o e n hb hx => ?_, I.base.free, fun b o e hx => ?_, I.base.tups, I.base.frzs, I.base.tbls⟩, ⟨m, hn.sameBut hs (Ne.symm (cne x c hc)), fun j y v' e1 e2 e3 => ?_⟩, fun y c' e => ?_, I.free, I.freeC, fun p hp => ?_, tracked ⟨oc, hoc, I.freeC x c hc⟩ hs, by simpa using I.len⟩ ⟨c, hs, .inr hc⟩
    · exact (hs.2 b (Nat.ne_of_lt (Nat.lt_of_lt_of_le (Heap.lt_size e) (I.ok.cab x c hfn hc)))).trans (I.base.keep b o e n hb hx)
    · obtain ⟨sl, e1⟩ := I.base.slot b o e n hb hx
      exact ⟨sl, (hs.2 b (Nat.ne_of_lt (Nat.lt_of_lt_of_le (Heap.lt_size e) (I.ok.cab x c hfn hc)))).trans e1⟩
    · obtain ⟨o', e1⟩ := I.base.there b o e hx
      exact ⟨o', (hs.2 b (Nat.ne_of_lt (Nat.lt_of_lt_of_le (Heap.lt_size e) (I.ok.cab x c hfn hc)))).trans e1⟩
    · by_cases hj : j = i
      · subst hj
        rw [hi] at e1; cases e1
        rw [List.getElem?_set_self hiσ] at e2
        cases e2
        exact ⟨u, r, .inr ⟨.inl hk, c, hc, hc'⟩⟩
      · rw [List.getElem?_set_ne (Ne.symm hj)] at e2
        obtain ⟨u', r', q⟩ := hl j y v' e1 e2 e3
        refine ⟨u', r', ?_⟩
        rcases q with q | ⟨k, c', e, z'⟩
        · exact .inl q
        · refine .inr ⟨k, c', e, z'.sameBut hs ?_⟩
          rintro rfl
          exact hj (nodup_ix hN e1 (I.ok.inj _ _ _ e hc ▸ hi))
    · by_cases hcc : c' = c
      · subst hcc; exact ⟨_, hc'⟩
      · obtain ⟨w2, z2⟩ := I.cell y c' e
        exact ⟨w2, z2.sameBut hs hcc⟩
    · obtain ⟨e, n, ne, nf, d⟩ := I.pin p hp
      refine ⟨(hs.2 p.1 ?_).trans e, n, ne, nf, d⟩
      intro q
      rw [q, hoc] at e
      have q' : oc = p.2 := Option.some.inj e
      exact d w' (by rw [← q']; exact hocd)
theorem store_ok {M : Model} {A : Around} {E : Value → Shared → Prop} {i : Nat} {x : Str} {v : V} {u : Value} {Q : Unit → Shared → Prop} (I : Inv X pins σ H s) (hN : X.N.Nodup) (hi : X.N[i]? = some x) (hx : Loc X.env.scope x) (r : RelV v u)
    (h : ∀ s', Inv X pins (σ.set i (some v)) H s' → Q () s') (hf : X.fn x = true ∨ X.env.scope.names.lookup x = some .local := by first | exact .inl rfl | exact .inr rfl | assumption) : wpAny M A (storeName X.env x u) Q E s :=
  store_ok2 I hN hi hx r (fun s' I' _ => h s' I') hf
/-- behind a call or a block, the state as it is -/
theorem Inv.call' {s' : Shared} {ch : List Addr} (I : Inv X pins σ H s) (ho : s'.os = s.os) (u : Un (frs X.stack) ch H H' s.heap s'.heap) (hok : HOk X.prog X.w H' s'.heap) (hg : AllBare s'.gens)
    (hch : ∀ b ∈ ch, (b ∈ X.ex ∨ X.s_0.heap.objs.size ≤ b) ∧ b ≠ X.env.locals ∧ (∀ x c, X.env.cells.lookup x = some c → c ≠ b) ∧ ∀ p ∈ X.pn ++ pins, p.1 ≠ b) : Inv X pins σ H' s' := by
  obtain ⟨h', g', d', t', o'⟩ := s'
  have e : o' = s.os := ho
  subst e
  exact I.call (g' := g') (t' := t') (d' := d') u hok hg hch
end
/-! ### the judgements -/
/-- an exception: its class, its own dict's address (where it has one), the abstract heap behind it -/
abbrev XK := Value → Option Addr → Hp → Prop
abbrev St := List (Option V)
abbrev VK := V → Hp → Prop
/-- an expression's reading; a test's; an argument list's -/
abbrev TE := St → Hp → VK → Prop
abbrev TT := St → Hp → (Bool → Hp → Prop) → Prop
abbrev TA := St → Hp → (List V → Hp → Prop) → Prop
/-- what is wanted behind a statement -/
structure Ends where
  nx : St → Hp → Prop
  rt : VK
  bk : St → Hp → Prop := fun _ _ => False
  ct : St → Hp → Prop := fun _ _ => False
abbrev TS := Ends → St → Hp → Prop
def EP (X : Cx) (pins : List (Addr × Obj)) (σ : St) (Q : VK) (u : Value) (s' : Shared) : Prop := ∃ v H', Inv X pins σ H' s' ∧ RelV v u ∧ Q v H'
def TP (X : Cx) (pins : List (Addr × Obj)) (σ : St) (Q : Bool → Hp → Prop) (b : Bool) (s' : Shared) : Prop := ∃ H', Inv X pins σ H' s' ∧ Q b H'
def AP (X : Cx) (pins : List (Addr × Obj)) (σ : St) (Q : List V → Hp → Prop) (us : List Value) (s' : Shared) : Prop := ∃ vs H', Inv X pins σ H' s' ∧ Vals vs us ∧ Q vs H'
def SP (X : Cx) (pins : List (Addr × Obj)) (D : Ends) (f : Flow) (s' : Shared) : Prop :=
  match f with
  | .next => ∃ σ' H', Inv X pins σ' H' s' ∧ D.nx σ' H'
  | .brk => ∃ σ' H', Inv X pins σ' H' s' ∧ D.bk σ' H'
  | .cont => ∃ σ' H', Inv X pins σ' H' s' ∧ D.ct σ' H'
  | .ret u => ∃ v σ' H', Inv X pins σ' H' s' ∧ RelV v u ∧ D.rt v H'
def PE (X : Cx) (e : Expr) (t : TE) : Prop :=
  ∀ (pins : List (Addr × Obj)) (s : Shared) (σ : St) (H : Hp) (Q : VK), Inv X pins σ H s → t σ H Q → wpAny (model X.prog X.w) X.A (eval e X.env) (EP X pins σ Q) X.xe s
def PT (X : Cx) (e : Expr) (t : TT) : Prop :=
  ∀ (pins : List (Addr × Obj)) (s : Shared) (σ : St) (H : Hp) (Q : Bool → Hp → Prop), Inv X pins σ H s → t σ H Q → wpAny (model X.prog X.w) X.A (isTrue e X.env (eval e X.env)) (TP X pins σ Q) X.xe s
/-- a test whatever its 'whole' is (and, or) -/
def PW (X : Cx) (e : Expr) (t : TT) : Prop :=
  ∀ (whole : Sem Value) (pins : List (Addr × Obj)) (s : Shared) (σ : St) (H : Hp) (Q : Bool → Hp → Prop), Inv X pins σ H s → t σ H Q → wpAny (model X.prog X.w) X.A (isTrue e X.env whole) (TP X pins σ Q) X.xe s
theorem PW.pt {X : Cx} {e : Expr} {t : TT} (h : PW X e t) : PT X e t := h _
/-- an argument list (no star), from the left -/
def PA (X : Cx) (es : List Expr) (t : TA) : Prop :=
  ∀ (pos : Pos) (pins : List (Addr × Obj)) (s : Shared) (σ : St) (H : Hp) (Q : List V → Hp → Prop), Inv X pins σ H s → t σ H Q → wpAny (model X.prog X.w) X.A (spliced (backTo pos (starEach es X.env))) (AP X pins σ Q) X.xe s
def PS (X : Cx) (st : Stmt) (t : TS) : Prop :=
  ∀ (pins : List (Addr × Obj)) (s : Shared) (σ : St) (H : Hp) (D : Ends), Inv X pins σ H s → t D σ H → wpAny (model X.prog X.w) X.A (exec st X.env) (SP X pins D) X.xe s
def PSs (X : Cx) (st : List Stmt) (t : TS) : Prop :=
  ∀ (pins : List (Addr × Obj)) (s : Shared) (σ : St) (H : Hp) (D : Ends), Inv X pins σ H s → t D σ H → wpAny (model X.prog X.w) X.A (execs st X.env) (SP X pins D) X.xe s
/-- weaken the end -/
theorem thn {α : Type} {t : Sem α} {Q Q' : α → Shared → Prop} {M : Model} {A : Around} {E : Value → Shared → Prop} {s : Shared} (h : wpAny M A t Q E s) (hQ : ∀ a s, Q a s → Q' a s) : wpAny M A t Q' E s := wpAny_mono h hQ fun _ _ x => x
end L2
namespace L2
open PySem PySem.Spec PyProof.Rows
section
variable {X : Cx}
/-! ### names and constants -/
def tVar (i : Nat) : TE := fun σ H Q => ∃ v, σ[i]? = some (some v) ∧ Q v H
def tC (v : V) : TE := fun _ H Q => Q v H
theorem pe_var {i : Nat} {x : Str} {pos : Pos} (hN : X.N[i]? = some x) (hv : Vis X.env.scope x) (hd : (x == ("__debug__" : Str)) = false := by decide) (hcd : (x == ("__classdict__" : Str)) = false := by decide) : PE X (.Name x pos) (tVar i) := by
  intro pins s σ H Q I h
  obtain ⟨v, e, h⟩ := h
  obtain ⟨m, hn, hl⟩ := I.loc
  obtain ⟨u, r, l⟩ := hl i x v hN e hv
  have fin : EP X pins σ Q u s := ⟨v, H, I, r, h⟩
  rcases l with ⟨hk, hm⟩ | ⟨hk, c, hc, hcell⟩
  · exact wpAny_Name (wpAny_loadName_local I.ok.kind hk hn hm fin) hd
  · rcases hk with hk | hk
    · exact wpAny_Name (wpAny_loadName_cell I.ok.kind hk hc hcell fin) hd
    · exact wpAny_Name (wpAny_loadName_free I.ok.kind hk hc hcell fin hcd) hd
theorem pe_int {i j pos} : PE X (.Constant (.int i) j pos) (tC (.int i)) := fun _ _ _ H _ I h => wpAny_Constant_int ⟨.int i, H, I.tok _, ⟨_, rfl⟩, h⟩
theorem pe_bl {b j pos} : PE X (.Constant (.bool b) j pos) (tC (.bl b)) := fun _ _ _ H _ I h => Constant_bool ⟨.bl b, H, I, rfl, h⟩
theorem pe_non {j pos} : PE X (.Constant .none j pos) (tC .non) := fun _ _ _ H _ I h => Constant_none ⟨.non, H, I, rfl, h⟩
theorem pe_str {x j pos} : PE X (.Constant (.str x) j pos) (tC (.str x)) := fun _ _ _ H _ I h => Calls.Constant_str ⟨.str x, H, I.tok _, ⟨_, rfl⟩, h⟩
/-- a global name of the def -/
def Gl (X : Cx) (x : Str) : Prop := X.env.kindOf x = some .globalImplicit
theorem ld_glob {E : Value → Shared → Prop} {pins : List (Addr × Obj)} {s : Shared} {σ : St} {H : Hp} {x : Str} {u : Value} {pos : Pos} {Q : Value → Shared → Prop} (I : Inv X pins σ H s) (hg : Gl X x) (hm : X.mg x = some u) (h : Q u s)
    (hd : (x == ("__debug__" : Str)) = false := by decide) : wpAny (model X.prog X.w) X.A (eval (.Name x pos) X.env) Q E s :=
  Calls.Name_function_global I.ok.kind hg (Calls.loadGlobal_global (by rw [I.ok.glob]; exact I.mod.glob.keeps I.bk) hm h) hd
theorem ld_blt {E : Value → Shared → Prop} {pins : List (Addr × Obj)} {s : Shared} {σ : St} {H : Hp} {x : Str} {u : Value} {pos : Pos} {Q : Value → Shared → Prop} (I : Inv X pins σ H s) (hg : Gl X x) (hm : X.mg x = none) (hv : bootBuiltins x = some u) (h : Q u s)
    (hn : x ≠ "__name__" := by decide) (hd : (x == ("__debug__" : Str)) = false := by decide) : wpAny (model X.prog X.w) X.A (eval (.Name x pos) X.env) Q E s := by
  obtain ⟨mb, h1, h2⟩ := I.mod.blt
  exact Calls.Name_function_global I.ok.kind hg (Calls.loadGlobal_builtin (by rw [I.ok.glob]; exact I.mod.glob.keeps I.bk) hm (by rw [I.ok.blt]; exact h1.keeps I.bk) ((h2 x hn).trans hv) h) hd
/-- a module's constant, a class, a function, as a value -/
theorem pe_glob {x : Str} {v : V} {u : Value} {pos : Pos} (hg : Gl X x) (hm : X.mg x = some u) (r : RelV v u) (hd : (x == ("__debug__" : Str)) = false := by decide) : PE X (.Name x pos) (tC v) :=
  fun _ _ _ H _ I h => ld_glob I hg hm ⟨v, H, I, r, h⟩ hd
/-! ### arithmetic -/
/-- two ints -/
def t2I (ta tb : TE) (k : Int → Int → Hp → Prop) : St → Hp → Prop := fun σ H => ta σ H fun x H1 => tb σ H1 fun y H2 => ∃ i j, x = .int i ∧ y = .int j ∧ k i j H2
def tAdd (ta tb : TE) : TE := fun σ H Q => t2I ta tb (fun i j H2 => Q (.int (i + j)) H2) σ H
def tSub (ta tb : TE) : TE := fun σ H Q => t2I ta tb (fun i j H2 => Q (.int (i - j)) H2) σ H
/-- the left factor below 2^64 -/
def tMul (ta tb : TE) : TE := fun σ H Q => t2I ta tb (fun i j H2 => (-(2 ^ 64) < i ∧ i < 2 ^ 64) ∧ Q (.int (i * j)) H2) σ H
variable {a b : Expr} {ta tb : TE} {pos : Pos}
/-! ### comparisons -/
def PC (X : Cx) (op : CmpOp) (a b : Expr) (t : TE) : Prop :=
  ∀ (pins : List (Addr × Obj)) (s : Shared) (σ : St) (H : Hp) (Q : VK), Inv X pins σ H s → t σ H Q →
    wpAny (model X.prog X.w) X.A (eval a X.env) (fun v s₁ => wpAny (model X.prog X.w) X.A (eval b X.env) (fun u s₂ => wpAny (model X.prog X.w) X.A (compareOp op v u) (EP X pins σ Q) X.xe s₂) X.xe s₁) X.xe s
theorem nobehind (b : Expr) {op : CmpOp} (h : op ≠ .In) (h2 : op ≠ .NotIn) : behindInMarks op b = false := by
  have e1 : (op == CmpOp.In) = false := by cases op <;> first | rfl | exact absurd rfl h
  have e2 : (op == CmpOp.NotIn) = false := by cases op <;> first | rfl | exact absurd rfl h2
  cases b <;> simp [behindInMarks, e1, e2]
def tCmp (p : Int → Int → Bool) (ta tb : TE) : TE := fun σ H Q => t2I ta tb (fun i j H2 => Q (.bl (p i j)) H2) σ H
abbrev tLt : TE → TE → TE := tCmp fun i j => decide (i < j)
abbrev tLe : TE → TE → TE := tCmp fun i j => decide (i ≤ j)
abbrev tGt : TE → TE → TE := tCmp fun i j => decide (j < i)
abbrev tGe : TE → TE → TE := tCmp fun i j => decide (j ≤ i)
abbrev tEqI : TE → TE → TE := tCmp fun i j => decide (i = j)
abbrev tNeI : TE → TE → TE := tCmp fun i j => !decide (i = j)
/-- is None -/
def tIsN (ta : TE) : TE := fun σ H Q => ta σ H fun x H1 => Q (.bl (decide (x = .non))) H1
def tNotN (ta : TE) : TE := fun σ H Q => ta σ H fun x H1 => Q (.bl (!decide (x = .non))) H1
theorem RelV.none_iff {x : V} {v : Value} (r : RelV x v) : (v == Value.none) = decide (x = .non) := by
  cases x with
  | non => cases r; rfl
  | bl _ => cases r; rfl
  | int _ => obtain ⟨t, rfl⟩ := r; rfl
  | str _ => obtain ⟨t, rfl⟩ := r; rfl
  | byt _ => obtain ⟨t, rfl⟩ := r; rfl
  | flt _ => obtain ⟨t, rfl⟩ := r; rfl
  | ref _ => cases r; rfl
  | ty _ => cases r; rfl
theorem pc_isN {j pos'} (ha : PE X a ta) : PC X .Is a (.Constant .none j pos') (tIsN ta) := by
  intro pins s σ H Q I h
  refine thn (ha pins s σ H _ I h) fun v s1 ⟨x, H1, I1, r1, q1⟩ => ?_
  exact Constant_none (is_none_gen ⟨.bl _, H1, I1, by rw [r1.none_iff]; rfl, q1⟩)
/-- a comparison as a value, as a test -/
def tB (t : TE) : TT := fun σ H Q => t σ H fun x H1 => ∃ c, x = .bl c ∧ Q c H1
theorem pt_cmp {op : CmpOp} {t : TE} (h : PC X op a b t) (h1 : behindInMarks op b = false := by first | exact nobehind _ (by decide) (by decide) | rfl) : PT X (.Compare a [op] [b] pos) (tB t) := by
  intro pins s σ H Q I hw
  refine wpAny_isTrue_Compare1 (thn (h pins s σ H _ I hw) fun v s1 h1 => thn h1 fun u s2 h2 => thn h2 fun c s3 ⟨x, H1, I1, r1, q1⟩ => ?_) h1
  obtain ⟨d, rfl, q⟩ := q1
  cases r1
  exact wpAny_truthy_bool ⟨H1, I1, q⟩
/-- an expression whose value is a bool, as a test -/
theorem pt_val {e : Expr} {t : TE} (h : PE X e t) (he : ∀ whole, isTrue e X.env whole = (do let v ← whole; standAt e.pos; holding [v] (truthy v)) := by intro _; rfl) : PT X e (tB t) := by
  intro pins s σ H Q I hw
  refine isTrue_plain (thn (h pins s σ H _ I hw) fun v s1 ⟨x, H1, I1, r1, q1⟩ => ?_) (he _)
  obtain ⟨d, rfl, q⟩ := q1
  cases r1
  exact wpAny_truthy_bool ⟨H1, I1, q⟩
/-! ### and, or, not -/
variable {tA tB' : TT} {rest : List Expr}
def tAnd (t u : TT) : TT := fun σ H Q => t σ H fun c H1 => if c = true then u σ H1 Q else Q false H1
def tOr (t u : TT) : TT := fun σ H Q => t σ H fun c H1 => if c = true then Q true H1 else u σ H1 Q
def tNot (t : TT) : TT := fun σ H Q => t σ H fun c H1 => Q (!c) H1
theorem pw_and1 (ha : PT X a tA) : PW X (.BoolOp .And [a] pos) tA := by
  intro wh pins s σ H Q I h
  refine isTrue_and (thn (ha pins s σ H Q I h) fun c s1 e => ?_)
  cases c with
  | true => exact isTrue_and_nil e
  | false => exact e
theorem pw_or1 (ha : PT X a tA) : PW X (.BoolOp .Or [a] pos) tA := by
  intro wh pins s σ H Q I h
  refine isTrue_or (thn (ha pins s σ H Q I h) fun c s1 e => ?_)
  cases c with
  | false => exact isTrue_or_nil e
  | true => exact e
theorem pw_and (ha : PT X a tA) (hb : PW X (.BoolOp .And (b :: rest) pos) tB') : PW X (.BoolOp .And (a :: b :: rest) pos) (tAnd tA tB') := by
  intro wh pins s σ H Q I h
  refine isTrue_and (thn (ha pins s σ H _ I h) fun c s1 ⟨H1, I1, q1⟩ => ?_)
  cases c with
  | true => exact hb wh pins s1 σ H1 Q I1 q1
  | false => exact ⟨H1, I1, q1⟩
theorem pw_or (ha : PT X a tA) (hb : PW X (.BoolOp .Or (b :: rest) pos) tB') : PW X (.BoolOp .Or (a :: b :: rest) pos) (tOr tA tB') := by
  intro wh pins s σ H Q I h
  refine isTrue_or (thn (ha pins s σ H _ I h) fun c s1 ⟨H1, I1, q1⟩ => ?_)
  cases c with
  | true => exact ⟨H1, I1, q1⟩
  | false => exact hb wh pins s1 σ H1 Q I1 q1
theorem pt_not (ha : PT X a tA) : PT X (.UnaryOp .Not a pos) (tNot tA) := by
  intro pins s σ H Q I h
  exact isTrue_not (ha pins s σ H (fun c H1 => Q (!c) H1) I h)
/-- .. as values (bools) -/
def tAndV (ta tb : TE) : TE := fun σ H Q => ta σ H fun x H1 => ∃ c, x = .bl c ∧ if c = true then tb σ H1 Q else Q (.bl false) H1
def tOrV (ta tb : TE) : TE := fun σ H Q => ta σ H fun x H1 => ∃ c, x = .bl c ∧ if c = true then Q (.bl true) H1 else tb σ H1 Q
def tNotV (ta : TE) : TE := fun σ H Q => ta σ H fun x H1 => ∃ c, x = .bl c ∧ Q (.bl (!c)) H1
theorem pe_one {op} {t : TE} (h : PE X a t) : PE X (.BoolOp op [a] pos) t := fun pins s σ H Q I hw => BoolOp_one (h pins s σ H Q I hw)
theorem pe_and (ha : PE X a ta) (hb : PE X (.BoolOp .And (b :: rest) pos) tb) : PE X (.BoolOp .And (a :: b :: rest) pos) (tAndV ta tb) := by
  intro pins s σ H Q I h
  refine BoolOp_and (thn (ha pins s σ H _ I h) fun v s1 ⟨x, H1, I1, r1, q1⟩ => ?_)
  obtain ⟨c, rfl, q1⟩ := q1
  cases r1
  refine wpAny_truthy_bool ?_
  cases c with
  | true => exact hb pins s1 σ H1 Q I1 q1
  | false => exact ⟨.bl false, H1, I1, rfl, q1⟩
/-- a if t else b -/
def tIf (t : TT) (ta tb : TE) : TE := fun σ H Q => t σ H fun c H1 => if c = true then ta σ H1 Q else tb σ H1 Q
theorem pe_ifExp {c : Expr} (hc : PT X c tA) (ha : PE X a ta) (hb : PE X b tb) : PE X (.IfExp c a b pos) (tIf tA ta tb) := by
  intro pins s σ H Q I h
  refine wpAny_IfExp (thn (hc pins s σ H _ I h) fun d s1 ⟨H1, I1, q1⟩ => ?_)
  cases d with
  | true => exact ha pins s1 σ H1 Q I1 q1
  | false => exact hb pins s1 σ H1 Q I1 q1
end
end L2
namespace L2
open PySem PySem.Spec PyProof.Rows
/-! ### a list, a tuple that is read: tracked, frozen, or an object of the module -/
def SqL (K : PySem.W.Frag) (H : Hp) (a : Addr) (xs : List V) : Prop :=
  Rd H a (.lst xs) ∨
    ∃ (o : Obj) (its : Array Value) (n : Nat), K.lookup a = some o ∧ o.cls = .type "list" ∧ o.dict = none ∧ o.data = .seq its n ∧ its.size ≤ sizeLine ∧ Vals xs its.toList
def SqT (K : PySem.W.Frag) (H : Hp) (a : Addr) (xs : List V) : Prop :=
  Rd H a (.tup xs) ∨
    ∃ (o : Obj) (its : Array Value) (n : Nat), K.lookup a = some o ∧ o.cls = .type "tuple" ∧ o.data = .seq its n ∧ its.size ≤ sizeLine ∧ Vals xs its.toList
def absV : Value → Option V
  | .none => some .non
  | .bool b => some (.bl b)
  | .int i _ => some (.int i)
  | .str x _ => some (.str x)
  | .bytes b _ => some (.byt b)
  | .float b _ => some (.flt b)
  | .ref a => some (.ref a)
  | .type n => some (.ty n)
  | _ => none
theorem RelV.abs {x : V} {u : Value} (r : RelV x u) : absV u = some x := by
  cases x with
  | non => cases r; rfl
  | bl _ => cases r; rfl
  | int _ => obtain ⟨t, rfl⟩ := r; rfl
  | str _ => obtain ⟨t, rfl⟩ := r; rfl
  | byt _ => obtain ⟨t, rfl⟩ := r; rfl
  | flt _ => obtain ⟨t, rfl⟩ := r; rfl
  | ref _ => cases r; rfl
  | ty _ => cases r; rfl
theorem RelV.inj {x y : V} {u : Value} (r : RelV x u) (q : RelV y u) : x = y := Option.some.inj (r.abs.symm.trans q.abs)
theorem Vals.inj : ∀ {xs ys : List V} {us : List Value}, Vals xs us → Vals ys us → xs = ys
  | _, _, _, .nil, .nil => rfl
  | _, _, _, .cons r t, .cons r' t' => by rw [r.inj r', Vals.inj t t']
section
variable {X : Cx} {pins : List (Addr × Obj)} {σ : St} {H : Hp} {s : Shared} {a : Addr} {xs ys : List V}
theorem SqL.of {K : PySem.W.Frag} (h : H a = some (.lst xs)) : SqL K H a xs := .inl (.inl h)
theorem SqT.of {K : PySem.W.Frag} (h : H a = some (.tup xs)) : SqT K H a xs := .inl (.inl h)
theorem Inv.list (I : Inv X pins σ H s) (h : SqL X.K H a xs) : ∃ its : List Value, Vals xs its ∧ PlainL s.heap a its.toArray ∧ xs.length ≤ sizeLine := by
  rcases h with h | ⟨o, its, n, hk, hc, hd, hs, hz, r⟩
  · obtain ⟨z, its, n, r, e⟩ := h.ok I.hok
    exact ⟨its, r, ⟨_, n, e, rfl, rfl, rfl⟩, z⟩
  · refine ⟨its.toList, r, ⟨o, n, I.kIn a o hk, hc, hd, by simpa using hs⟩, ?_⟩
    have e := r.length
    simp only [Array.length_toList] at e
    omega
theorem Inv.tuple (I : Inv X pins σ H s) (h : SqT X.K H a xs) : ∃ its : List Value, Vals xs its ∧ IsTup s.heap a its.toArray ∧ xs.length ≤ sizeLine := by
  rcases h with h | ⟨o, its, n, hk, hc, hs, hz, r⟩
  · obtain ⟨z, its, r, p⟩ := h.ok I.hok
    exact ⟨its, r, p, z⟩
  · refine ⟨its.toList, r, ⟨o, I.kIn a o hk, hc, n, by simpa using hs⟩, ?_⟩
    have e := r.length
    simp only [Array.length_toList] at e
    omega
theorem Inv.list_inj (I : Inv X pins σ H s) (h : SqL X.K H a xs) (h' : SqL X.K H a ys) : xs = ys := by
  obtain ⟨its, r, ⟨o, n, e, _, _, d⟩, _⟩ := I.list h
  obtain ⟨its', r', ⟨o', n', e', _, _, d'⟩, _⟩ := I.list h'
  rw [e] at e'; cases e'
  rw [d] at d'
  injection d' with d1 _
  have : its = its' := by simpa using congrArg Array.toList d1
  subst this
  exact r.inj r'
theorem Inv.tuple_inj (I : Inv X pins σ H s) (h : SqT X.K H a xs) (h' : SqT X.K H a ys) : xs = ys := by
  obtain ⟨its, r, ⟨o, e, _, n, d⟩, _⟩ := I.tuple h
  obtain ⟨its', r', ⟨o', e', _, n', d'⟩, _⟩ := I.tuple h'
  rw [e] at e'; cases e'
  rw [d] at d'
  injection d' with d1 _
  have : its = its' := by simpa using congrArg Array.toList d1
  subst this
  exact r.inj r'
end
/-! ### another wish about exceptions -/
abbrev Cx.wish (X : Cx) (E : Value → Shared → Prop) : Cx := { X with xe := E }
/-- no exception leaves -/
abbrev Cx.nox (X : Cx) : Cx := X.wish fun _ _ => False
theorem Cx.Ok.wish {X : Cx} (ok : X.Ok) (E : Value → Shared → Prop) : (X.wish E).Ok :=
  ⟨ok.mod, ok.kind, ok.glob, ok.blt, ok.above, ok.inj, ok.has, ok.cab, ok.hd, ok.frames, ok.stk, ok.exf, ok.bs, ok.bsz, ok.noex, ok.exfs, ok.funs, ok.frf⟩
theorem Cx.Ok.unwish {X : Cx} {E : Value → Shared → Prop} (ok : (X.wish E).Ok) : X.Ok :=
  ⟨ok.mod, ok.kind, ok.glob, ok.blt, ok.above, ok.inj, ok.has, ok.cab, ok.hd, ok.frames, ok.stk, ok.exf, ok.bs, ok.bsz, ok.noex, ok.exfs, ok.funs, ok.frf⟩
section
variable {X : Cx} {pins : List (Addr × Obj)} {σ : St} {H : Hp} {s : Shared} {E : Value → Shared → Prop}
theorem Inv.wish (I : Inv X pins σ H s) (E : Value → Shared → Prop) : Inv (X.wish E) pins σ H s := ⟨I.ok.wish E, I.os, I.bare, I.base, I.loc, I.cell, I.free, I.freeC, I.pin, I.hok, I.len⟩
theorem Inv.unwish (I : Inv (X.wish E) pins σ H s) : Inv X pins σ H s := ⟨I.ok.unwish, I.os, I.bare, I.base, I.loc, I.cell, I.free, I.freeC, I.pin, I.hok, I.len⟩
theorem SP.unwish {D : Ends} {f : Flow} {s' : Shared} (h : SP (X.wish E) pins D f s') : SP X pins D f s' := by
  cases f with
  | next => obtain ⟨σ', H', I, q⟩ := h; exact ⟨σ', H', I.unwish, q⟩
  | brk => obtain ⟨σ', H', I, q⟩ := h; exact ⟨σ', H', I.unwish, q⟩
  | cont => obtain ⟨σ', H', I, q⟩ := h; exact ⟨σ', H', I.unwish, q⟩
  | ret u => obtain ⟨v, σ', H', I, r, q⟩ := h; exact ⟨v, σ', H', I.unwish, r, q⟩
theorem PE.nox {e : Expr} {t : TE} (h : PE X.nox e t) : PE X e t := fun pins s σ H Q I hw =>
  wpAny_mono (h pins s σ H Q (I.wish _) hw) (fun _ _ ⟨v, H', I', r, q⟩ => ⟨v, H', I'.unwish, r, q⟩) fun _ _ z => False.elim z
theorem PT.nox {e : Expr} {t : TT} (h : PT X.nox e t) : PT X e t := fun pins s σ H Q I hw =>
  wpAny_mono (h pins s σ H Q (I.wish _) hw) (fun _ _ ⟨H', I', q⟩ => ⟨H', I'.unwish, q⟩) fun _ _ z => False.elim z
theorem PSs.nox {st : List Stmt} {t : TS} (h : PSs X.nox st t) : PSs X st t := fun pins s σ H D I hw =>
  wpAny_mono (h pins s σ H D (I.wish _) hw) (fun _ _ q => q.unwish) fun _ _ z => False.elim z
end
/-! ### blocks and small statements -/
section
variable {X : Cx} {st : Stmt} {rest : List Stmt} {t u : TS} {e : Expr} {te : TE} {pos : Pos}
def tNext : TS := fun D σ H => D.nx σ H
def tSeq (t u : TS) : TS := fun D σ H => t { D with nx := u D } σ H
theorem pss_nil : PSs X [] tNext := fun _ _ σ H _ I h => wpAny_execs_nil ⟨σ, H, I, h⟩
theorem pss_cons (h1 : PS X st t) (h2 : PSs X rest u) : PSs X (st :: rest) (tSeq t u) := by
  intro pins s σ H D I h
  refine wpAny_execs_cons (thn (h1 pins s σ H { D with nx := u D } I h) fun f s1 q => ?_)
  cases f with
  | next =>
    obtain ⟨σ', H', I', q⟩ := q
    exact h2 pins s1 σ' H' D I' q
  | ret v => exact q
  | brk => exact q
  | cont => exact q
theorem pss_one (h1 : PS X st t) : PSs X [st] t := by
  intro pins s σ H D I h
  refine wpAny_execs_cons (thn (h1 pins s σ H D I h) fun f s1 q => ?_)
  cases f with
  | next => exact wpAny_execs_nil q
  | ret v => exact q
  | brk => exact q
  | cont => exact q
def tBreak : TS := fun D σ H => D.bk σ H
def tCont : TS := fun D σ H => D.ct σ H
theorem ps_continue : PS X (.Continue pos) tCont := fun _ _ σ H _ I h => wpAny_Continue ⟨σ, H, I, h⟩
/-- in a def's body nothing is shown -/
theorem Inv.quiet {pins : List (Addr × Obj)} {σ : St} {H : Hp} {s : Shared} (I : Inv X pins σ H s) : interactive X.env = false := by simp [interactive, I.ok.kind]
/-- an expression whose value is dropped -/
def tDrop (te : TE) : TS := fun D σ H => te σ H fun _ H1 => D.nx σ H1
theorem ps_expr (he : PE X e te) (hs : swapsWith e none pos.line X.env = pure false := by rfl) : PS X (.Expr e pos) (tDrop te) := by
  intro pins s σ H D I h
  exact wpAny_Expr_any (thn (he pins s σ H _ I h) fun v s1 ⟨x, H1, I1, r1, q1⟩ => ⟨σ, H1, I1, q1⟩) I.quiet hs
def tRet (te : TE) : TS := fun D σ H => te σ H D.rt
theorem ps_ret (he : PE X e te) : PS X (.Return (some e) pos) (tRet te) := by
  intro pins s σ H D I h
  exact wpAny_Return_some (thn (he pins s σ H _ I h) fun v s1 ⟨x, H1, I1, r1, q1⟩ => ⟨x, σ, H1, I1, r1, q1⟩)
def tRetN : TS := fun D _ H => D.rt .non H
def tIfS (c : TT) (t u : TS) : TS := fun D σ H => c σ H fun b H1 => if b = true then t D σ H1 else u D σ H1
theorem ps_if {c : Expr} {a b : List Stmt} {tc : TT} (hc : PT X c tc) (ha : PSs X a t) (hb : PSs X b u) : PS X (.If c a b pos) (tIfS tc t u) := by
  intro pins s σ H D I h
  refine wpAny_If (thn (hc pins s σ H _ I h) fun d s1 ⟨H1, I1, q1⟩ => ?_)
  cases d with
  | true => exact ha pins s1 σ H1 D I1 q1
  | false => exact hb pins s1 σ H1 D I1 q1
/-- code that the proof never comes to -/
def tNever : TS := fun _ _ _ => False
theorem ps_never : PS X st tNever := fun _ _ _ _ _ _ h => h.elim
end
/-! ### targets -/
abbrev TG := V → St → Hp → (St → Hp → Prop) → Prop
abbrev TGs := List V → St → Hp → (St → Hp → Prop) → Prop
def PG (X : Cx) (target : Expr) (t : TG) : Prop :=
  ∀ (pins : List (Addr × Obj)) (s : Shared) (σ : St) (H : Hp) (v : V) (u : Value) (Q : St → Hp → Prop), Inv X pins σ H s → RelV v u → t v σ H Q →
    wpAny (model X.prog X.w) X.A (assign target X.env u) (fun _ s' => ∃ σ' H', Inv X pins σ' H' s' ∧ Q σ' H') X.xe s
/-- several targets, one after another -/
def PGs (X : Cx) (ts : List Expr) (t : TGs) : Prop :=
  ∀ (pins : List (Addr × Obj)) (s : Shared) (σ : St) (H : Hp) (vs : List V) (us : List Value) (Q : St → Hp → Prop), Inv X pins σ H s → Vals vs us → t vs σ H Q →
    wpAny (model X.prog X.w) X.A (assignInOrder ((assignEach ts X.env).map (·.2)) us) (fun _ s' => ∃ σ' H', Inv X pins σ' H' s' ∧ Q σ' H') X.xe s
/-- o[i] = v, by values -/
abbrev TSet := V → V → V → Hp → (Hp → Prop) → Prop
def PSet (X : Cx) (t : TSet) : Prop :=
  ∀ (pins : List (Addr × Obj)) (s : Shared) (σ : St) (H : Hp) (o i v : V) (ov iv u : Value) (Q : Hp → Prop), Inv X pins σ H s → RelV o ov → RelV i iv → RelV v u → t o i v H Q →
    wpAny (model X.prog X.w) X.A (setItem ov iv u) (fun _ s' => ∃ H', Inv X pins σ H' s' ∧ Q H') X.xe s
/-- a op= b, by values -/
abbrev TIp := V → V → Hp → VK → Prop
def PIp (X : Cx) (op : Operator) (t : TIp) : Prop :=
  ∀ (pins : List (Addr × Obj)) (s : Shared) (σ : St) (H : Hp) (x y : V) (v u : Value) (Q : VK), Inv X pins σ H s → RelV x v → RelV y u → t x y H Q →
    wpAny (model X.prog X.w) X.A (inplaceOp op v u) (EP X pins σ Q) X.xe s
section
variable {X : Cx} {pos : Pos}
def gName (i : Nat) : TG := fun v σ H Q => Q (σ.set i (some v)) H
theorem pg_name {i : Nat} {x : Str} (hN : X.N.Nodup) (hi : X.N[i]? = some x) (hx : Loc X.env.scope x) (hf : X.fn x = true ∨ X.env.scope.names.lookup x = some .local := by first | exact .inl rfl | exact .inr rfl | assumption) : PG X (.Name x pos) (gName i) := by
  intro pins s σ H v u Q I r h
  exact wpAny_assign_Name (store_ok I hN hi hx r (fun s' I' => ⟨_, H, I', h⟩) hf)
def gNil : TGs := fun vs σ H Q => vs = [] ∧ Q σ H
def gCons (t : TG) (u : TGs) : TGs := fun vs σ H Q => ∃ v r, vs = v :: r ∧ t v σ H fun σ' H' => u r σ' H' Q
theorem pgs_nil : PGs X [] gNil := by
  intro pins s σ H vs us Q I r h
  obtain ⟨e, h⟩ := h
  subst e
  cases r
  exact assignInOrder_nil ⟨σ, H, I, h⟩
theorem pgs_cons {e : Expr} {es : List Expr} {t : TG} {u : TGs} (h1 : PG X e t) (h2 : PGs X es u)
    (hs : (assignEach (e :: es) X.env).map (·.2) = assign e X.env :: (assignEach es X.env).map (·.2) := by rfl) : PGs X (e :: es) (gCons t u) := by
  intro pins s σ H vs us Q I r h
  obtain ⟨v, vr, e1, h⟩ := h
  subst e1
  cases r with
  | cons r rr =>
    rw [hs]
    refine assignInOrder_cons (thn (h1 pins s σ H _ _ _ I r h) fun _ s1 ⟨σ1, H1, I1, q1⟩ => ?_)
    exact h2 pins s1 σ1 H1 _ _ Q I1 rr q1
/-- (a, b, ..) = a tuple of that length -/
def gTup (K : PySem.W.Frag) (n : Nat) (t : TGs) : TG := fun v σ H Q => ∃ a xs, v = .ref a ∧ SqT K H a xs ∧ xs.length = n ∧ t xs σ H Q
theorem pg_tup {es : List Expr} {k : Nat} {t : TGs} {n : Nat} (hc : X.calm = true) (h : PGs X es t)
    (hn : (assignEach es X.env).length = n := by rfl) (hst : (assignEach es X.env).findIdx? (·.1) = none := by rfl) : PG X (.Tuple es k pos) (gTup X.K n t) := by
  intro pins s σ H v u Q I r hw
  obtain ⟨a, xs, e1, hq, hl, hw⟩ := hw
  subst e1
  cases r
  obtain ⟨its, rv, ht, hz⟩ := I.tuple hq
  refine assign_Tuple_tuple (I.ok.hd hc) ht (by simp [hn, ← hl, rv.length]) hst fun h' hx => ?_
  have I1 : Inv X pins σ H { s with heap := h' } := I.kept (t' := s.toks) fun b o e => hx b o (Nat.ne_of_lt (Heap.lt_size e)) e
  exact h pins _ σ H xs _ Q I1 (by simpa using rv) hw
/-- o[i] = .. -/
def gSub (to ti : TE) (t : TSet) : TG := fun v σ H Q => to σ H fun o H1 => ti σ H1 fun i H2 => t o i v H2 fun H3 => Q σ H3
theorem pg_sub {o i : Expr} {to ti : TE} {t : TSet} (ho : PE X o to) (hi : PE X i ti) (hs : PSet X t)
    (ha : ∀ v, assign (.Subscript o i pos) X.env v = (do
      let ov ← holding [v] (eval o X.env)
      let iv ← holding [v, ov] (eval i X.env)
      standAt pos
      holding [v, ov, iv] (setItem ov iv v)
      release [v, ov, iv] []) := by intro _; rfl) : PG X (.Subscript o i pos) (gSub to ti t) := by
  intro pins s σ H v u Q I r h
  rw [ha]
  refine wpAny_bind (wpAny_holding (thn (ho pins s σ H _ I h) fun ov s1 ⟨x, H1, I1, r1, q1⟩ => ?_))
  refine wpAny_bind (wpAny_holding (thn (hi pins s1 σ H1 _ I1 q1) fun iv s2 ⟨y, H2, I2, r2, q2⟩ => ?_))
  refine wpAny_bind (wpAny_standAt (wpAny_bind (wpAny_holding (thn (hs pins s2 σ H2 x y v ov iv u _ I2 r1 r2 r q2) fun _ s3 ⟨H3, I3, q3⟩ => ?_))))
  exact wpAny_release ⟨σ, H3, I3, q3⟩
/-- target = value -/
def tAsg (te : TE) (g : TG) : TS := fun D σ H => te σ H fun x H1 => g x σ H1 D.nx
theorem ps_asg {tg e : Expr} {te : TE} {g : TG} (he : PE X e te) (hg : PG X tg g) (hs : swapsWithSole [tg] e pos.line X.env = pure false := by rfl) (hw : swappedStores [tg] e X.env = pure none := by rfl)
    (h1 : (assignEach [tg] X.env).map (·.2) = [assign tg X.env] := by rfl) : PS X (.Assign [tg] e pos) (tAsg te g) := by
  intro pins s σ H D I h
  refine wpAny_Assign_stores (thn (he pins s σ H _ I h) fun v s1 ⟨x, H1, I1, r1, q1⟩ => ?_) hs hw
  rw [h1]
  exact thn (hg pins s1 σ H1 x v _ I1 r1 q1) fun _ s2 q => q
/-- name = value -/
theorem ps_set {i : Nat} {x : Str} {e : Expr} {te : TE} {pos' : Pos} (hN : X.N.Nodup) (hi : X.N[i]? = some x) (hx : Loc X.env.scope x) (he : PE X e te) (hs : swapsWith e (some (.Name x pos')) pos.line X.env = pure false := by rfl) (hf : X.fn x = true ∨ X.env.scope.names.lookup x = some .local := by first | exact .inl rfl | exact .inr rfl | assumption) :
    PS X (.Assign [.Name x pos'] e pos) (tAsg te (gName i)) := by
  intro pins s σ H D I h
  refine wpAny_Assign_Name (thn (he pins s σ H _ I h) fun v s1 ⟨y, H1, I1, r1, q1⟩ => ?_) hs
  exact store_ok I1 hN hi hx r1 (fun s2 I2 => ⟨_, H1, I2, q1⟩) hf
/-- a, b = x, y with plain local names: stored from the right; the pair itself is not tracked (the opening rows as in PyProof/Rows/TupAssign.lean:23) -/
def tPar (i j : Nat) (ta : TA) : TS := fun D σ H => ta σ H fun vs H1 => ∃ v w, vs = [v, w] ∧ D.nx ((σ.set i (some v)).set j (some w)) H1
/-- name op= e -/
def tAug (i : Nat) (te : TE) (ti : TIp) : TS := fun D σ H => ∃ x, σ[i]? = some (some x) ∧ te σ H fun y H1 => ti x y H1 fun z H2 => D.nx (σ.set i (some z)) H2
/-- o[i] op= e -/
def tAugS (to ti te : TE) (tget : V → V → Hp → VK → Prop) (tip : TIp) (tset : TSet) : TS := fun D σ H => to σ H fun o H1 => ti σ H1 fun i H2 => tget o i H2 fun x H3 => te σ H3 fun y H4 => tip x y H4 fun z H5 => tset o i z H5 fun H6 => D.nx σ H6
/-- o[i], by values -/
def PGet (X : Cx) (t : V → V → Hp → VK → Prop) : Prop :=
  ∀ (pins : List (Addr × Obj)) (s : Shared) (σ : St) (H : Hp) (o i : V) (ov iv : Value) (Q : VK), Inv X pins σ H s → RelV o ov → RelV i iv → t o i H Q →
    wpAny (model X.prog X.w) X.A (getItem ov iv) (EP X pins σ Q) X.xe s
/-- ints -/
def ipI (f : Int → Int → Int) : TIp := fun x y H Q => ∃ i j, x = .int i ∧ y = .int j ∧ Q (.int (f i j)) H
end
/-! ### while -/
section
variable {X : Cx} {pos : Pos}
/-- the invariant W with its measure -/
def tWhile (c : TT) (tb : TS) : TS := fun D σ H => ∃ W : Nat → St → Hp → Prop, (∃ m, W m σ H) ∧ ∀ m σ H, W m σ H →
  c σ H fun b H1 => if b = true then ∃ N : St → Hp → Prop, (∀ σ' H', N σ' H' → ∃ m', m' < m ∧ W m' σ' H') ∧ tb { D with nx := N, ct := N, bk := D.nx } σ H1 else D.nx σ H1
theorem ps_while {c : Expr} {body : List Stmt} {tc : TT} {tb : TS} (hp : PassesOwn (model X.prog X.w) X.A X.env X.xe) (hc : PT X c tc) (hb : PSs X body tb) : PS X (.While c body [] pos) (tWhile tc tb) := by
  intro pins s σ H D I h
  obtain ⟨W, ⟨m0, w0⟩, turn⟩ := h
  refine wpAny_While (codeAny_whileLoop (fun n s' => ∃ σ' H', Inv X pins σ' H' s' ∧ W n σ' H') ?_ m0 ⟨σ, H, I, w0⟩)
  rintro n s1 ⟨σ1, H1, I1, w1⟩
  refine wpAny_passesOwn hp (thn (hc pins s1 σ1 H1 _ I1 (turn n σ1 H1 w1)) fun b s2 ⟨H2, I2, q2⟩ => ?_)
  cases b with
  | true =>
    obtain ⟨N, hN, q2⟩ := q2
    rw [if_pos rfl]
    refine wpAny_passesOwn hp (thn (hb pins s2 σ1 H2 _ I2 q2) fun f s3 q3 => ?_)
    cases f with
    | next =>
      obtain ⟨σ3, H3, I3, n3⟩ := q3
      obtain ⟨m', hm, w3⟩ := hN σ3 H3 n3
      exact ⟨m', hm, σ3, H3, I3, w3⟩
    | cont =>
      obtain ⟨σ3, H3, I3, n3⟩ := q3
      obtain ⟨m', hm, w3⟩ := hN σ3 H3 n3
      exact ⟨m', hm, σ3, H3, I3, w3⟩
    | brk => exact q3
    | ret v => exact q3
  | false =>
    rw [if_neg Bool.false_ne_true]
    exact wpAny_execs_nil ⟨σ1, H2, I2, q2⟩
end
/-! ### what a loop or a comprehension walks -/
/-- at turn i: it yields x (the heap may grow), or it stops -/
structure It where
  go : Nat → Hp → Prop
  yld : Nat → Hp → V → Hp → Prop
  stop : Nat → Hp → Prop
/-- the iterator's own objects may turn: they are not the frame's, not pinned, younger than the entry (or a comprehension's own) -/
def FpOk (X : Cx) (pins : List (Addr × Obj)) (H : Hp) (b : Addr) : Prop :=
  H b = none ∧ b ≠ X.env.locals ∧ b ∉ X.fs ∧ (b ∈ X.ex ∨ X.s_0.heap.objs.size ≤ b) ∧ (∀ x c, X.env.cells.lookup x = some c → c ≠ b) ∧ ∀ p ∈ X.pn ++ pins, p.1 ≠ b
theorem Inv.fpOk {X : Cx} {pins : List (Addr × Obj)} {σ : St} {H H' : Hp} {s : Shared} {b : Addr} (I : Inv X pins σ H s) (hb : s.heap.objs.size ≤ b) (hn : H' b = none) : FpOk X pins H' b := by
  refine ⟨hn, Nat.ne_of_gt (Nat.lt_of_lt_of_le I.lt hb), I.nofs hb, .inr (Nat.le_trans I.sz hb), fun x c e z => ?_, fun p hp z => ?_⟩
  · obtain ⟨v, q⟩ := I.cell x c e
    exact absurd (Nat.lt_of_lt_of_le q.lt (by rw [z]; exact hb)) (Nat.lt_irrefl _)
  · exact absurd (Nat.lt_of_lt_of_le (Heap.lt_size (I.pin p hp).1) (by rw [z]; exact hb)) (Nat.lt_irrefl _)
structure Turn (P : Program) (w : World) (K : PySem.W.Frag) (tg : Expr) (J : It) (fp : List Addr) (it : Addr) (tn : Nat → Heap → Prop) : Prop where
  mem : it ∈ fp
  obj : ∀ i h, tn i h → ∀ b ∈ fp, ∃ o, h.get? b = some o ∧ ∀ v, o.data ≠ .cell v
  keep : ∀ i h h', tn i h → (∀ b ∈ fp, ∀ o, h.get? b = some o → h'.get? b = some o) → tn i h'
  item : ∀ (X : Cx), X.prog = P → X.w = w → X.K = K → X.calm = true → ∀ (i : Nat) (pins : List (Addr × Obj)) (s : Shared) (σ : St) (H : Hp) (E : Value → Shared → Prop), Inv X pins σ H s → (∀ b ∈ fp, FpOk X pins H b) → tn i s.heap → J.go i H →
    wpAny (model P w) X.A (pyNext (.ref it)) (fun r s1 => ∃ u, r = some u ∧
      wpAny (model P w) X.A (letOwnedTupleGo tg (.ref it) u) (fun _ s2 => ∃ x H', Inv X pins σ H' s2 ∧ RelV x u ∧ J.yld i H x H' ∧ tn (i + 1) s2.heap ∧ ∀ b ∈ fp, H' b = none) E s1) E s
  done : ∀ (X : Cx), X.prog = P → X.w = w → X.K = K → X.calm = true → ∀ (i : Nat) (pins : List (Addr × Obj)) (s : Shared) (σ : St) (H : Hp) (E : Value → Shared → Prop), Inv X pins σ H s → (∀ b ∈ fp, FpOk X pins H b) → tn i s.heap → J.stop i H →
    wpAny (model P w) X.A (pyNext (.ref it)) (fun r s1 => r = none ∧ Inv X pins σ H s1) E s
  self : ∀ (A : Around) (i : Nat) (s : Shared) (Q : Value → Shared → Prop) (E : Value → Shared → Prop), tn i s.heap → Q (.ref it) s → wpAny (model P w) A (pyIter (.ref it)) Q E s
abbrev TI := St → Hp → (It → Hp → Prop) → Prop
/-- an iterator has come -/
def PIE (X : Cx) (pins : List (Addr × Obj)) (σ : St) (tg : Expr) (R : It → Hp → Prop) (itv : Value) (s2 : Shared) : Prop :=
  ∃ (it : Addr) (fp : List Addr) (tn : Nat → Heap → Prop) (J : It) (H' : Hp), itv = .ref it ∧ Inv X pins σ H' s2 ∧ Turn X.prog X.w X.K tg J fp it tn ∧ tn 0 s2.heap ∧ (∀ b ∈ fp, FpOk X pins H' b) ∧ R J H'
def PI (X : Cx) (tg iter : Expr) (wi : TI) : Prop :=
  ∀ (pins : List (Addr × Obj)) (s : Shared) (σ : St) (H : Hp) (R : It → Hp → Prop), Inv X pins σ H s → wi σ H R →
    wpAny (model X.prog X.w) X.A (eval iter X.env) (fun v s1 => wpAny (model X.prog X.w) X.A (pyIter v) (PIE X pins σ tg R) X.xe s1) X.xe s
/-- the step ahead of the store is nothing for an iterator that keeps no tuple -/
theorem go_of {M : Model} {A : Around} {E : Value → Shared → Prop} {s : Shared} {tg : Expr} {it : Addr} {u : Value} {o : Obj} {n : String} {vs : Array Value} {Q : Unit → Shared → Prop} (ho : s.heap.get? it = some o) (hc : o.cls = .type n) (hd : o.data = .fields vs)
    (hn : ["enumerate", "zip", "dict_itemiterator", "dict_reverseitemiterator", "odict_iterator", "itertools.zip_longest", "itertools.pairwise"].contains n = false) (hQ : Q () s) : wpAny M A (letOwnedTupleGo tg (.ref it) u) Q E s := by
  unfold letOwnedTupleGo
  cases tg <;> first
    | exact wpAny_pure hQ
    | (cases u <;> first
        | exact wpAny_pure hQ
        | (refine wpAny_bind (wpAny_load ho ?_)
           rw [hc, hd]
           show wpAny M A (if (["enumerate", "zip", "dict_itemiterator", "dict_reverseitemiterator", "odict_iterator", "itertools.zip_longest", "itertools.pairwise"].contains n && vs[0]? == some (rawInt _)) = true then _ else _) Q E s
           rw [if_neg (by intro h; rw [hn, Bool.false_and] at h; cases h)]
           exact wpAny_pure hQ))
/-- the list at a, as it stands at each turn (a loop may append to it) -/
def Itl (K : PySem.W.Frag) (a : Addr) : It :=
  ⟨fun i H => ∃ xs x, SqL K H a xs ∧ xs[i]? = some x, fun i H x H' => H' = H ∧ ∀ xs, SqL K H a xs → xs[i]? = some x, fun i H => ∃ xs, SqL K H a xs ∧ xs.length ≤ i⟩
def Itt (K : PySem.W.Frag) (a : Addr) : It :=
  ⟨fun i H => ∃ xs x, SqT K H a xs ∧ xs[i]? = some x, fun i H x H' => H' = H ∧ ∀ xs, SqT K H a xs → xs[i]? = some x, fun i H => ∃ xs, SqT K H a xs ∧ xs.length ≤ i⟩
/-- lo, lo + 1, .. (n of them) -/
def Itr (lo : Int) (n : Nat) : It := ⟨fun i _ => i < n, fun i H x H' => H' = H ∧ x = .int (lo + i), fun i _ => n ≤ i⟩
theorem turn_list {P : Program} {w : World} {K : PySem.W.Frag} {tg : Expr} (a it : Addr) : Turn P w K tg (Itl K a) [it] it (fun i h => h.IsListIter it a i) where
  mem := by simp
  obj := fun i h st b hb => by
    have e : b = it := by simpa using hb
    subst e
    obtain ⟨o, e, c, d⟩ := st
    exact ⟨o, e, fun v z => by rw [d] at z; cases z⟩
  keep := fun i h h' st k => st.at fun o e => k it (by simp) o e
  item := by
    intro X hP hw hK hc i pins s σ H E I hf st hg
    subst hP hw hK
    obtain ⟨xs, x, hq, hx⟩ := hg
    obtain ⟨its, rv, p, hz⟩ := I.list hq
    obtain ⟨u, hu, ru⟩ := rv.get hx
    obtain ⟨f0, f1, f2, f3, f4, f5⟩ := hf it (by simp)
    refine wpAny_pyNext_list_item st p.isList (x := u) (by simpa using hu) fun h' st' sb => ?_
    have I1 : Inv X pins σ H { s with heap := h' } := I.turned (t' := s.toks) (fun b o hb e => (sb.2 b hb).trans e) f0 f1 f3 f4 f5
    obtain ⟨o, e, c, d⟩ := id st'
    exact ⟨u, rfl, go_of (s := { s with heap := h' }) e c d (by decide) ⟨x, H, I1, ru, ⟨rfl, fun ys hy => by rw [I.list_inj hy hq]; exact hx⟩, st', fun b hb => (hf b hb).1⟩⟩
  done := by
    intro X hP hw hK hc i pins s σ H E I hf st hg
    subst hP hw hK
    obtain ⟨xs, hq, hx⟩ := hg
    obtain ⟨its, rv, p, hz⟩ := I.list hq
    obtain ⟨f0, f1, f2, f3, f4, f5⟩ := hf it (by simp)
    have hl := rv.length
    exact wpAny_pyNext_list_end (I.ok.hd hc) st p.isList (by simp; omega) fun h' eb => ⟨rfl, I.turned (t' := s.toks) (fun b o hb e => eb b o hb e) f0 f1 f3 f4 f5⟩
  self := fun _ _ _ _ _ st h => wpAny_pyIter_listiter st h
theorem turn_tuple {P : Program} {w : World} {K : PySem.W.Frag} {tg : Expr} (a it : Addr) : Turn P w K tg (Itt K a) [it] it (fun i h => h.IsTupleIter it a i) where
  mem := by simp
  obj := fun i h st b hb => by
    have e : b = it := by simpa using hb
    subst e
    obtain ⟨o, e, c, d⟩ := st
    exact ⟨o, e, fun v z => by rw [d] at z; cases z⟩
  keep := fun i h h' st k => st.at fun o e => k it (by simp) o e
  item := by
    intro X hP hw hK hc i pins s σ H E I hf st hg
    subst hP hw hK
    obtain ⟨xs, x, hq, hx⟩ := hg
    obtain ⟨its, rv, p, hz⟩ := I.tuple hq
    obtain ⟨u, hu, ru⟩ := rv.get hx
    obtain ⟨f0, f1, f2, f3, f4, f5⟩ := hf it (by simp)
    refine wpAny_pyNext_tuple_item st (show s.heap.IsTuple a its.toArray from p) (x := u) (by simpa using hu) fun h' st' sb => ?_
    have I1 : Inv X pins σ H { s with heap := h' } := I.turned (t' := s.toks) (fun b o hb e => (sb.2 b hb).trans e) f0 f1 f3 f4 f5
    obtain ⟨o, e, c, d⟩ := id st'
    exact ⟨u, rfl, go_of (s := { s with heap := h' }) e c d (by decide) ⟨x, H, I1, ru, ⟨rfl, fun ys hy => by rw [I.tuple_inj hy hq]; exact hx⟩, st', fun b hb => (hf b hb).1⟩⟩
  done := by
    intro X hP hw hK hc i pins s σ H E I hf st hg
    subst hP hw hK
    obtain ⟨xs, hq, hx⟩ := hg
    obtain ⟨its, rv, p, hz⟩ := I.tuple hq
    obtain ⟨f0, f1, f2, f3, f4, f5⟩ := hf it (by simp)
    have hl := rv.length
    exact wpAny_pyNext_tuple_end (I.ok.hd hc) st (show s.heap.IsTuple a its.toArray from p) (by simp; omega) fun h' eb => ⟨rfl, I.turned (t' := s.toks) (fun b o hb e => eb b o hb e) f0 f1 f3 f4 f5⟩
  self := fun _ _ _ _ _ st h => wpAny_pyIter_tupleiter st h
theorem turn_range {P : Program} {w : World} {K : PySem.W.Frag} {tg : Expr} (it : Addr) (lo : Int) (n : Nat) : Turn P w K tg (Itr lo n) [it] it (fun i h => IsRangeIter h it (lo + (i : Nat) * 1) ((n : Int) - (i : Nat)) 1) where
  mem := by simp
  obj := fun i h st b hb => by
    have e : b = it := by simpa using hb
    subst e
    exact ⟨_, st, fun v z => by
      have z' : Data.fields _ = Data.cell v := z
      cases z'⟩
  keep := fun i h h' st k => k it (by simp) _ st
  item := by
    intro X hP hw hK hc i pins s σ H E I hf st hg
    subst hP hw hK
    obtain ⟨f0, f1, f2, f3, f4, f5⟩ := hf it (by simp)
    have W := Walks.range (prog := X.prog) (w := X.w) (I.ok.hd hc) it lo 1 n
    refine W.item i s _ _ hg st fun v h' tk hv st' kk => ?_
    obtain ⟨t, rfl⟩ := hv
    have I1 : Inv X pins σ H { s with heap := h', toks := tk } := I.turned (fun b o hb e => kk b o (by simpa using hb) e) f0 f1 f3 f4 f5
    refine ⟨_, rfl, go_of (s := { s with heap := h', toks := tk }) (n := "range_iterator") st' rfl rfl (by decide) ⟨.int (lo + i), H, I1, ⟨t, ?_⟩, ⟨rfl, rfl⟩, st', fun b hb => (hf b hb).1⟩⟩
    rw [Int.mul_one]
  done := by
    intro X hP hw hK hc i pins s σ H E I hf st hg
    subst hP hw hK
    obtain ⟨f0, f1, f2, f3, f4, f5⟩ := hf it (by simp)
    exact wpAny_pyNext_range_end (I.ok.hd hc) st (by have : n ≤ i := hg; omega) fun h' eb => ⟨rfl, I.turned (t' := s.toks) (fun b o hb e => eb b o hb e) f0 f1 f3 f4 f5⟩
  self := fun _ _ _ _ _ st h => wpAny_pyIter_rangeiter st h
end L2
namespace L2
open PySem PySem.Spec PyProof.Rows
section
variable {X : Cx} {tg : Expr}
def iList (K : PySem.W.Frag) (tl : TE) : TI := fun σ H R => tl σ H fun x H1 => ∃ a, x = .ref a ∧ (∃ xs, SqL K H1 a xs) ∧ R (Itl K a) H1
def iTup (K : PySem.W.Frag) (tl : TE) : TI := fun σ H R => tl σ H fun x H1 => ∃ a, x = .ref a ∧ (∃ xs, SqT K H1 a xs) ∧ R (Itt K a) H1
theorem pi_list {l : Expr} {tl : TE} (hl : PE X l tl) : PI X tg l (iList X.K tl) := by
  intro pins s σ H R I h
  refine thn (hl pins s σ H _ I h) fun v s1 ⟨x, H1, I1, r1, q1⟩ => ?_
  obtain ⟨a, e, ⟨xs, hq⟩, q⟩ := q1
  subst e
  cases r1
  obtain ⟨its, rv, p, hz⟩ := I1.list hq
  refine wpAny_pyIter_list p.isList ?_
  refine ⟨s1.heap.objs.size, [s1.heap.objs.size], _, _, H1, rfl, I1.kept (t' := s1.toks) fun b o e => Heap.get?_push_of_some _ e, turn_list a _, ⟨_, Heap.get?_push_size _ rfl, rfl, rfl⟩, fun b hb => ?_, q⟩
  have e : b = s1.heap.objs.size := by simpa using hb
  subst e
  exact I1.fpOk (Nat.le_refl _) (I1.hok.fresh (Nat.le_refl _))
theorem pi_tup {l : Expr} {tl : TE} (hl : PE X l tl) : PI X tg l (iTup X.K tl) := by
  intro pins s σ H R I h
  refine thn (hl pins s σ H _ I h) fun v s1 ⟨x, H1, I1, r1, q1⟩ => ?_
  obtain ⟨a, e, ⟨xs, hq⟩, q⟩ := q1
  subst e
  cases r1
  obtain ⟨its, rv, p, hz⟩ := I1.tuple hq
  refine wpAny_pyIter_tuple (show s1.heap.IsTuple a its.toArray from p) ?_
  refine ⟨s1.heap.objs.size, [s1.heap.objs.size], _, _, H1, rfl, I1.kept (t' := s1.toks) fun b o e => Heap.get?_push_of_some _ e, turn_tuple a _, ⟨_, Heap.get?_push_size _ rfl, rfl, rfl⟩, fun b hb => ?_, q⟩
  have e : b = s1.heap.objs.size := by simpa using hb
  subst e
  exact I1.fpOk (Nat.le_refl _) (I1.hok.fresh (Nat.le_refl _))
/-- a range object just made, walked -/
theorem range_it {pins : List (Addr × Obj)} {σ : St} {H : Hp} {s : Shared} {R : It → Hp → Prop} {E : Value → Shared → Prop} {lo hi : Int} {t u v : Tok} {tk : Nat} (I : Inv X pins σ H s) (h1 : -(2 ^ 62) ≤ lo) (h2 : lo < 2 ^ 62) (h3 : -(2 ^ 62) ≤ hi) (h4 : hi < 2 ^ 62)
    (q : R (Itr lo (hi - lo).toNat) H) : wpAny (model X.prog X.w) X.A (pyIter (.ref s.heap.objs.size)) (PIE X pins σ tg R) E { s with heap := s.heap.push { cls := .type "range", data := .fields #[.int lo t, .int hi u, .int 1 v] }, toks := tk } := by
  refine wpAny_pyIter_range (IsRange.new ..) (small_one h1 h2 h3 h4) ?_
  have I1 : Inv X pins σ H { s with heap := s.heap.push { cls := .type "range", data := .fields #[.int lo t, .int hi u, .int 1 v] }, toks := tk } := I.kept fun b o e => Heap.get?_push_of_some _ e
  refine ⟨(s.heap.push { cls := .type "range", data := .fields #[.int lo t, .int hi u, .int 1 v] }).objs.size, [(s.heap.push { cls := .type "range", data := .fields #[.int lo t, .int hi u, .int 1 v] }).objs.size], _, _, H, rfl,
    I1.kept (t' := tk) fun b o e => Heap.get?_push_of_some _ e, turn_range _ lo (hi - lo).toNat, ?_, fun b hb => ?_, q⟩
  · have e1 : lo + ((0 : Nat) : Int) * 1 = lo := by simp
    have e2 : (((hi - lo).toNat : Nat) : Int) - ((0 : Nat) : Int) = Builtin.Range.rangeSize lo hi 1 := by rw [rangeSize_one]; split <;> omega
    show IsRangeIter _ _ (lo + ((0 : Nat) : Int) * 1) ((((hi - lo).toNat : Nat) : Int) - ((0 : Nat) : Int)) 1
    rw [e1, e2]
    exact Heap.get?_push_size _ rfl
  · have e : b = (s.heap.push { cls := .type "range", data := .fields #[.int lo t, .int hi u, .int 1 v] }).objs.size := by simpa using hb
    subst e
    exact I1.fpOk (Nat.le_refl _) (I1.hok.fresh (Nat.le_refl _))
def iRng1 (ta : TA) : TI := fun σ H R => ta σ H fun vs H1 => ∃ j : Int, vs = [.int j] ∧ -(2 ^ 62) ≤ j ∧ j < 2 ^ 62 ∧ R (Itr 0 j.toNat) H1
def iRng2 (ta : TA) : TI := fun σ H R => ta σ H fun vs H1 => ∃ i j : Int, vs = [.int i, .int j] ∧ (-(2 ^ 62) ≤ i ∧ i < 2 ^ 62 ∧ -(2 ^ 62) ≤ j ∧ j < 2 ^ 62) ∧ R (Itr i (j - i).toNat) H1
theorem pi_range1 {a : Expr} {ta : TA} {p pos : Pos} (hg : Gl X "range") (hm : X.mg "range" = none) (ha : PA X [a] ta) (hs : starEach [a] X.env = [(false, eval a X.env)] := by rfl) : PI X tg (.Call (.Name "range" p) [a] [] pos) (iRng1 ta) := by
  intro pins s σ H R I h
  refine Call_ (ld_blt I hg hm boot_range (PyProof.Rows.callWith_type1 (thn (ha pos pins s σ H _ I h) fun us s1 ⟨vs, H1, I1, r1, q1⟩ => ?_) hs rfl))
  obtain ⟨j, e, q1, q2, q⟩ := q1
  subst e
  cases r1 with
  | cons r rr =>
    cases rr
    obtain ⟨t, rfl⟩ := r
    exact call_range_1 (range_it I1 (by omega) (by omega) q1 q2 (by simpa using q))
/-! ### for -/
/-- W: the invariant by the turn and a measure; N: what the body is to reach -/
def tFor (wi : TI) (g : TG) (tb : TS) : TS := fun D σ H => wi σ H fun J H1 => ∃ W : Nat → Nat → St → Hp → Prop, (∃ m, W 0 m σ H1) ∧ ∀ i m σ H, W i m σ H →
  (J.stop i H ∧ D.nx σ H) ∨ (J.go i H ∧ ∃ N : St → Hp → Prop, (∀ σ' H', N σ' H' → ∃ m', m' < m ∧ W (i + 1) m' σ' H') ∧ ∀ x H', J.yld i H x H' → g x σ H' fun σ2 H2 => tb { D with nx := N, ct := N, bk := D.nx } σ2 H2)
/-- the records at fp as they stand -/
def pinsAt (fp : List Addr) (h : Heap) : List (Addr × Obj) := fp.filterMap fun b => (h.get? b).map fun o => (b, o)
theorem mem_pinsAt {fp : List Addr} {h : Heap} {b : Addr} {o : Obj} (hb : b ∈ fp) (e : h.get? b = some o) : (b, o) ∈ pinsAt fp h := List.mem_filterMap.mpr ⟨b, hb, by rw [e]; rfl⟩
theorem of_pinsAt {fp : List Addr} {h : Heap} {p : Addr × Obj} (hp : p ∈ pinsAt fp h) : p.1 ∈ fp ∧ h.get? p.1 = some p.2 := by
  obtain ⟨b, hb, e⟩ := List.mem_filterMap.mp hp
  cases q : h.get? b with
  | none => rw [q] at e; cases e
  | some o =>
    rw [q] at e
    have e' : (b, o) = p := Option.some.inj e
    subst e'
    exact ⟨hb, q⟩
theorem Inv.pinned {pins : List (Addr × Obj)} {σ : St} {H : Hp} {s : Shared} {fp : List Addr} (I : Inv X pins σ H s) (hf : ∀ b ∈ fp, FpOk X pins H b) (ho : ∀ b ∈ fp, ∃ o, s.heap.get? b = some o ∧ ∀ v, o.data ≠ .cell v) : Inv X (pins ++ pinsAt fp s.heap) σ H s :=
  I.pins_of fun p hp => (List.mem_append.mp hp).elim (fun z => I.pin p (List.mem_append_right _ z)) fun z => by
    obtain ⟨hb, e⟩ := of_pinsAt z
    obtain ⟨f0, f1, f2, _⟩ := hf p.1 hb
    obtain ⟨o, e', d⟩ := ho p.1 hb
    rw [e] at e'; cases e'
    exact ⟨e, f0, f1, f2, d⟩
theorem Inv.unpinned {pins pl : List (Addr × Obj)} {σ : St} {H : Hp} {s : Shared} (I : Inv X (pins ++ pl) σ H s) : Inv X pins σ H s := I.pins_of fun p hp => I.pin p (List.mem_append_right _ (List.mem_append_left _ hp))
theorem ps_for {iter : Expr} {body : List Stmt} {wi : TI} {g : TG} {tb : TS} {pos : Pos} (hp : PassesOwn (model X.prog X.w) X.A X.env X.xe) (hc : X.calm = true) (hi : PI X tg iter wi) (hg : PG X tg g) (hb : PSs X body tb)
    (hs : ∀ x, foldedSetIterable iter X.env x = pure x := by intro _; rfl) : PS X (.For tg iter body [] pos) (tFor wi g tb) := by
  intro pins s σ H D I h
  refine wpAny_For (thn (hi pins s σ H _ I h) fun v s1 h1 => thn h1 fun itv s2 h2 => ?_) hs
  obtain ⟨it, fp, tn, J, H2, e, I2, T, st2, f2, W, ⟨m0, w0⟩, turn⟩ := h2
  subst e
  -- what stays true of the iterator's objects through the loop
  have stat : ∀ {H' : Hp}, (∀ b ∈ fp, H' b = none) → ∀ b ∈ fp, FpOk X pins H' b := fun hn b hb => ⟨hn b hb, (f2 b hb).2⟩
  refine codeAny_forLoop_any (fun n s' => ∃ i σ' H', Inv X pins σ' H' s' ∧ tn i s'.heap ∧ (∀ b ∈ fp, H' b = none) ∧ W i n σ' H') ?_ m0 ⟨0, σ, H2, I2, st2, fun b hb => (f2 b hb).1, w0⟩
  rintro n s3 ⟨i, σ3, H3, I3, st3, fr3, w3⟩
  rcases turn i n σ3 H3 w3 with ⟨stop, qn⟩ | ⟨go, N, hN, step⟩
  · refine wpAny_passesOwn hp (thn (T.done X rfl rfl rfl hc i pins s3 σ3 H3 X.xe I3 (stat fr3) st3 stop) fun r s4 ⟨hr, I4⟩ => ?_)
    subst hr
    exact wpAny_execs_nil ⟨σ3, H3, I4, qn⟩
  · refine wpAny_passesOwn hp (thn (T.item X rfl rfl rfl hc i pins s3 σ3 H3 X.xe I3 (stat fr3) st3 go) fun r s4 ⟨u, hr, h4⟩ => ?_)
    subst hr
    refine wpAny_passesOwn hp (thn h4 fun _ s5 ⟨x, H5, I5, r5, y5, st5, fr5⟩ => ?_)
    have I5' := I5.pinned (stat fr5) (T.obj _ _ st5)
    refine wpAny_passesOwn hp (thn (hg _ s5 σ3 H5 x u _ I5' r5 (step x H5 y5)) fun _ s6 ⟨σ6, H6, I6, q6⟩ => ?_)
    refine wpAny_passesOwn hp (thn (hb _ s6 σ6 H6 _ I6 q6) fun f s7 q7 => ?_)
    have again : ∀ {σ7 : St} {H7 : Hp}, Inv X (pins ++ pinsAt fp s5.heap) σ7 H7 s7 → N σ7 H7 → ∃ m, m < n ∧ ∃ i σ' H', Inv X pins σ' H' s7 ∧ tn i s7.heap ∧ (∀ b ∈ fp, H' b = none) ∧ W i m σ' H' := fun {σ7 H7} I7 n7 => by
      obtain ⟨m', hm, w7⟩ := hN σ7 H7 n7
      refine ⟨m', hm, i + 1, σ7, H7, I7.unpinned, T.keep _ _ _ st5 fun b hb o e => (I7.pin (b, o) (List.mem_append_right _ (List.mem_append_right _ (mem_pinsAt hb e)))).1, fun b hb => ?_, w7⟩
      obtain ⟨o, e, d⟩ := T.obj _ _ st5 b hb
      exact (I7.pin (b, o) (List.mem_append_right _ (List.mem_append_right _ (mem_pinsAt hb e)))).2.1
    cases f with
    | next => obtain ⟨σ7, H7, I7, n7⟩ := q7; exact again I7 n7
    | cont => obtain ⟨σ7, H7, I7, n7⟩ := q7; exact again I7 n7
    | brk => obtain ⟨σ7, H7, I7, q7⟩ := q7; exact ⟨σ7, H7, I7.unpinned, q7⟩
    | ret v => obtain ⟨x7, σ7, H7, I7, r7, q7⟩ := q7; exact ⟨x7, σ7, H7, I7.unpinned, r7, q7⟩
end
/-! ### the forms one uses -/
/-- over a list that the body leaves as it is -/
theorem for_list {K : PySem.W.Frag} {a : Addr} {xs : List V} {g : TG} {tb : TS} {D : Ends} {σ : St} {H : Hp} (Pv : Nat → St → Hp → Prop) (h0 : Pv 0 σ H) (hl : ∀ i σ H, i ≤ xs.length → Pv i σ H → SqL K H a xs)
    (hs : ∀ i x σ H, xs[i]? = some x → Pv i σ H → g x σ H fun σ2 H2 => tb { D with nx := Pv (i + 1), ct := Pv (i + 1), bk := D.nx } σ2 H2) (hd : ∀ σ H, Pv xs.length σ H → D.nx σ H) :
    ∃ W : Nat → Nat → St → Hp → Prop, (∃ m, W 0 m σ H) ∧ ∀ i m σ H, W i m σ H →
      ((Itl K a).stop i H ∧ D.nx σ H) ∨ ((Itl K a).go i H ∧ ∃ N : St → Hp → Prop, (∀ σ' H', N σ' H' → ∃ m', m' < m ∧ W (i + 1) m' σ' H') ∧ ∀ x H', (Itl K a).yld i H x H' → g x σ H' fun σ2 H2 => tb { D with nx := N, ct := N, bk := D.nx } σ2 H2) := by
  refine ⟨fun i m σ H => m = xs.length - i ∧ i ≤ xs.length ∧ Pv i σ H, ⟨xs.length, by simp, Nat.zero_le _, h0⟩, ?_⟩
  rintro i m σ H ⟨rfl, hi, p⟩
  have q := hl i σ H hi p
  by_cases hlt : i < xs.length
  · refine .inr ⟨⟨xs, xs[i], q, by simp [hlt]⟩, Pv (i + 1), fun σ' H' p' => ⟨xs.length - (i + 1), by omega, rfl, hlt, p'⟩, fun x H' y => ?_⟩
    obtain ⟨e, y⟩ := y
    subst e
    exact hs i x σ _ (y xs q) p
  · have e : i = xs.length := by omega
    subst e
    exact .inl ⟨⟨xs, q, Nat.le_refl _⟩, hd σ H p⟩
theorem for_tup {K : PySem.W.Frag} {a : Addr} {xs : List V} {g : TG} {tb : TS} {D : Ends} {σ : St} {H : Hp} (Pv : Nat → St → Hp → Prop) (h0 : Pv 0 σ H) (hl : ∀ i σ H, i ≤ xs.length → Pv i σ H → SqT K H a xs)
    (hs : ∀ i x σ H, xs[i]? = some x → Pv i σ H → g x σ H fun σ2 H2 => tb { D with nx := Pv (i + 1), ct := Pv (i + 1), bk := D.nx } σ2 H2) (hd : ∀ σ H, Pv xs.length σ H → D.nx σ H) :
    ∃ W : Nat → Nat → St → Hp → Prop, (∃ m, W 0 m σ H) ∧ ∀ i m σ H, W i m σ H →
      ((Itt K a).stop i H ∧ D.nx σ H) ∨ ((Itt K a).go i H ∧ ∃ N : St → Hp → Prop, (∀ σ' H', N σ' H' → ∃ m', m' < m ∧ W (i + 1) m' σ' H') ∧ ∀ x H', (Itt K a).yld i H x H' → g x σ H' fun σ2 H2 => tb { D with nx := N, ct := N, bk := D.nx } σ2 H2) := by
  refine ⟨fun i m σ H => m = xs.length - i ∧ i ≤ xs.length ∧ Pv i σ H, ⟨xs.length, by simp, Nat.zero_le _, h0⟩, ?_⟩
  rintro i m σ H ⟨rfl, hi, p⟩
  have q := hl i σ H hi p
  by_cases hlt : i < xs.length
  · refine .inr ⟨⟨xs, xs[i], q, by simp [hlt]⟩, Pv (i + 1), fun σ' H' p' => ⟨xs.length - (i + 1), by omega, rfl, hlt, p'⟩, fun x H' y => ?_⟩
    obtain ⟨e, y⟩ := y
    subst e
    exact hs i x σ _ (y xs q) p
  · have e : i = xs.length := by omega
    subst e
    exact .inl ⟨⟨xs, q, Nat.le_refl _⟩, hd σ H p⟩
theorem for_range {lo : Int} {n : Nat} {g : TG} {tb : TS} {D : Ends} {σ : St} {H : Hp} (Pv : Nat → St → Hp → Prop) (h0 : Pv 0 σ H)
    (hs : ∀ i σ H, i < n → Pv i σ H → g (.int (lo + i)) σ H fun σ2 H2 => tb { D with nx := Pv (i + 1), ct := Pv (i + 1), bk := D.nx } σ2 H2) (hd : ∀ σ H, Pv n σ H → D.nx σ H) :
    ∃ W : Nat → Nat → St → Hp → Prop, (∃ m, W 0 m σ H) ∧ ∀ i m σ H, W i m σ H →
      ((Itr lo n).stop i H ∧ D.nx σ H) ∨ ((Itr lo n).go i H ∧ ∃ N : St → Hp → Prop, (∀ σ' H', N σ' H' → ∃ m', m' < m ∧ W (i + 1) m' σ' H') ∧ ∀ x H', (Itr lo n).yld i H x H' → g x σ H' fun σ2 H2 => tb { D with nx := N, ct := N, bk := D.nx } σ2 H2) := by
  refine ⟨fun i m σ H => m = n - i ∧ i ≤ n ∧ Pv i σ H, ⟨n, by simp, Nat.zero_le _, h0⟩, ?_⟩
  rintro i m σ H ⟨rfl, hi, p⟩
  by_cases hlt : i < n
  · refine .inr ⟨hlt, Pv (i + 1), fun σ' H' p' => ⟨n - (i + 1), by omega, rfl, hlt, p'⟩, fun x H' y => ?_⟩
    obtain ⟨e, y⟩ := y
    subst e y
    exact hs i σ _ hlt p
  · have e : i = n := by omega
    subst e
    exact .inl ⟨Nat.le_refl _, hd σ H p⟩
end L2
namespace L2
open PySem PySem.Spec PyProof.Rows
abbrev R2 := V → V → Hp → VK → Prop
/-- a two-place operation on values: f is binaryOp op, inplaceOp op or compareOp op -/
def OpR (X : Cx) (f : Value → Value → Sem Value) (r : R2) : Prop :=
  ∀ (pins : List (Addr × Obj)) (s : Shared) (σ : St) (H : Hp) (x y : V) (v u : Value) (Q : VK), Inv X pins σ H s → RelV x v → RelV y u → r x y H Q →
    wpAny (model X.prog X.w) X.A (f v u) (EP X pins σ Q) X.xe s
/-- a one-place operation -/
def UnR (X : Cx) (f : Value → Sem Value) (r : V → Hp → VK → Prop) : Prop :=
  ∀ (pins : List (Addr × Obj)) (s : Shared) (σ : St) (H : Hp) (x : V) (v : Value) (Q : VK), Inv X pins σ H s → RelV x v → r x H Q →
    wpAny (model X.prog X.w) X.A (f v) (EP X pins σ Q) X.xe s
/-- a call of a value that is known (a builtin, a type) with values -/
def CallR (X : Cx) (f : Value) (r : List V → Hp → VK → Prop) : Prop :=
  ∀ (pins : List (Addr × Obj)) (s : Shared) (σ : St) (H : Hp) (xs : List V) (us : List Value) (Q : VK), Inv X pins σ H s → Vals xs us → r xs H Q →
    wpAny (model X.prog X.w) X.A (call f us) (EP X pins σ Q) X.xe s
/-- a value's truth -/
def TruR (X : Cx) (r : V → Hp → (Bool → Hp → Prop) → Prop) : Prop :=
  ∀ (pins : List (Addr × Obj)) (s : Shared) (σ : St) (H : Hp) (x : V) (v : Value) (Q : Bool → Hp → Prop), Inv X pins σ H s → RelV x v → r x H Q →
    wpAny (model X.prog X.w) X.A (truthy v) (TP X pins σ Q) X.xe s
def tOp (r : R2) (ta tb : TE) : TE := fun σ H Q => ta σ H fun x H1 => tb σ H1 fun y H2 => r x y H2 Q
def tUn (r : V → Hp → VK → Prop) (ta : TE) : TE := fun σ H Q => ta σ H fun x H1 => r x H1 Q
/-- ints in, under C, and a value out -/
def rI (C : Int → Int → Prop) (g : Int → Int → V) : R2 := fun x y H Q => ∃ i j, x = .int i ∧ y = .int j ∧ C i j ∧ Q (g i j) H
def rI0 (g : Int → Int → V) : R2 := fun x y H Q => ∃ i j, x = .int i ∧ y = .int j ∧ Q (g i j) H
def rU (g : Int → V) : V → Hp → VK → Prop := fun x H Q => ∃ i, x = .int i ∧ Q (g i) H
section
variable {X : Cx} {a b c : Expr} {ta tb tc : TE} {pos : Pos}
theorem binT (ha : PE X a ta) (hb : PE X b tb) {pins : List (Addr × Obj)} {s : Shared} {σ : St} {H : Hp} {R : V → V → Hp → Prop} (I : Inv X pins σ H s)
    (h : ta σ H fun x H1 => tb σ H1 fun y H2 => R x y H2) {Q : Value → Shared → Prop} {f : Value → Value → Sem Value}
    (hf : ∀ v u s2 x y H2, Inv X pins σ H2 s2 → RelV x v → RelV y u → R x y H2 → wpAny (model X.prog X.w) X.A (f v u) Q X.xe s2) :
    wpAny (model X.prog X.w) X.A (eval a X.env) (fun v s₁ => wpAny (model X.prog X.w) X.A (eval b X.env) (fun u s₂ => wpAny (model X.prog X.w) X.A (f v u) Q X.xe s₂) X.xe s₁) X.xe s := by
  refine thn (ha pins s σ H _ I h) fun v s1 ⟨x, H1, I1, r1, q1⟩ => ?_
  refine thn (hb pins s1 σ H1 _ I1 q1) fun u s2 ⟨y, H2, I2, r2, q2⟩ => ?_
  exact hf v u s2 x y H2 I2 r1 r2 q2
theorem pe_op {op : Operator} {r : R2} (ho : OpR X (binaryOp op) r) (ha : PE X a ta) (hb : PE X b tb) : PE X (.BinOp a op b pos) (tOp r ta tb) := by
  intro pins s σ H Q I h
  exact wpAny_BinOp (binT ha hb I h fun v u s2 x y H2 I2 rx ry q => ho pins s2 σ H2 x y v u Q I2 rx ry q)
theorem pe_un {op : UnaryOp} {r : V → Hp → VK → Prop} (ho : UnR X (unaryOp op) r) (ha : PE X a ta) : PE X (.UnaryOp op a pos) (tUn r ta) := by
  intro pins s σ H Q I h
  exact UnaryOp_ (thn (ha pins s σ H _ I h) fun v s1 ⟨x, H1, I1, r1, q1⟩ => ho pins s1 σ H1 x v Q I1 r1 q1)
/-! ### ints -/
theorem opI {f : Value → Value → Sem Value} {C : Int → Int → Prop} {g : Int → Int → Int}
    (rule : ∀ (i j : Int) (t u : Tok) (s : Shared) (Q : Value → Shared → Prop) (E : Value → Shared → Prop), C i j → Q (.int (g i j) s.toks) { s with toks := s.toks + 1 } → wpAny (model X.prog X.w) X.A (f (.int i t) (.int j u)) Q E s) :
    OpR X f (rI C fun i j => .int (g i j)) := by
  intro pins s σ H x y v u Q I rx ry h
  obtain ⟨i, j, rfl, rfl, hc, q⟩ := h
  obtain ⟨t, rfl⟩ := rx
  obtain ⟨t', rfl⟩ := ry
  exact rule i j t t' s _ _ hc ⟨.int (g i j), H, I.tok _, ⟨_, rfl⟩, q⟩
theorem opI0 {f : Value → Value → Sem Value} {g : Int → Int → Int}
    (rule : ∀ (i j : Int) (t u : Tok) (s : Shared) (Q : Value → Shared → Prop) (E : Value → Shared → Prop), Q (.int (g i j) s.toks) { s with toks := s.toks + 1 } → wpAny (model X.prog X.w) X.A (f (.int i t) (.int j u)) Q E s) :
    OpR X f (rI0 fun i j => .int (g i j)) := by
  intro pins s σ H x y v u Q I rx ry h
  obtain ⟨i, j, rfl, rfl, q⟩ := h
  obtain ⟨t, rfl⟩ := rx
  obtain ⟨t', rfl⟩ := ry
  exact rule i j t t' s _ _ ⟨.int (g i j), H, I.tok _, ⟨_, rfl⟩, q⟩
theorem opB0 {f : Value → Value → Sem Value} {g : Int → Int → Bool}
    (rule : ∀ (i j : Int) (t u : Tok) (s : Shared) (Q : Value → Shared → Prop) (E : Value → Shared → Prop), Q (.bool (g i j)) s → wpAny (model X.prog X.w) X.A (f (.int i t) (.int j u)) Q E s) :
    OpR X f (rI0 fun i j => .bl (g i j)) := by
  intro pins s σ H x y v u Q I rx ry h
  obtain ⟨i, j, rfl, rfl, q⟩ := h
  obtain ⟨t, rfl⟩ := rx
  obtain ⟨t', rfl⟩ := ry
  exact rule i j t t' s _ _ ⟨.bl (g i j), H, I, rfl, q⟩
def CDiv (i j : Int) : Prop := 0 < j ∧ j < 1073741824
def CDivN (i j : Int) : Prop := j ≠ 0 ∧ j.natAbs < 1073741824
def CPow (i j : Int) : Prop := 0 ≤ j ∧ j ≤ 1000000 ∧ i.natAbs < 2 ^ 64
def CMul (i j : Int) : Prop := (-(2 ^ 64) < i ∧ i < 2 ^ 64) ∨ (-(2 ^ 64) < j ∧ j < 2 ^ 64)
theorem CMul.ok {i j : Int} (h : CMul i j) : IntMulOk i j := by
  rcases h with ⟨h1, h2⟩ | ⟨h1, h2⟩
  · exact .of_left (intBits_le_64 h1 h2)
  · exact .of_right (intBits_le_64 h1 h2)
theorem op_add : OpR X (binaryOp .Add) (rI0 fun i j => .int (i + j)) := opI0 fun _ _ _ _ _ _ _ q => add_int q
theorem op_sub : OpR X (binaryOp .Sub) (rI0 fun i j => .int (i - j)) := opI0 fun _ _ _ _ _ _ _ q => sub_int q
theorem op_mul : OpR X (binaryOp .Mult) (rI CMul fun i j => .int (i * j)) := opI fun _ _ _ _ _ _ _ hc q => mul_int q hc.ok
/-- // by a positive divisor -/
theorem op_fdiv : OpR X (binaryOp .FloorDiv) (rI CDiv fun i j => .int (i / j)) := opI fun i j _ _ _ _ _ hc q => by
  have h1 : (0 : Int) < j := hc.1
  have h2 : j < 1073741824 := hc.2
  exact floordiv_int (by omega) (by rw [Int.fdiv_eq_ediv_of_nonneg i (by omega)]; exact q) (.inl (PyProof.noPylong_small (by omega)))
theorem unI {f : Value → Sem Value} {g : Int → Int}
    (rule : ∀ (i : Int) (t : Tok) (s : Shared) (Q : Value → Shared → Prop) (E : Value → Shared → Prop), Q (.int (g i) s.toks) { s with toks := s.toks + 1 } → wpAny (model X.prog X.w) X.A (f (.int i t)) Q E s) :
    UnR X f (rU fun i => .int (g i)) := by
  intro pins s σ H x v Q I rx h
  obtain ⟨i, rfl, q⟩ := h
  obtain ⟨t, rfl⟩ := rx
  exact rule i t s _ _ ⟨.int (g i), H, I.tok _, ⟨_, rfl⟩, q⟩
theorem un_neg : UnR X (unaryOp .USub) (rU fun i => .int (-i)) := unI fun _ _ _ _ _ q => neg_int q
/-! ### bools among ints: n += (a < b) -/
end
/-! ### comparisons -/
/-- the scalars that == tells apart as data does -/
def scal : V → V → Bool
  | .non, .non => true | .non, .int _ => true | .int _, .non => true | .non, .bl _ => true | .bl _, .non => true | .non, .str _ => true | .str _, .non => true
  | .int _, .int _ => true | .bl _, .bl _ => true | .str _, .str _ => true | .byt _, .byt _ => true
  | .int _, .str _ => true | .str _, .int _ => true | .bl _, .str _ => true | .str _, .bl _ => true
  | _, _ => false
def rEq : R2 := fun x y H Q => scal x y = true ∧ Q (.bl (decide (x = y))) H
def rNe : R2 := fun x y H Q => scal x y = true ∧ Q (.bl (!decide (x = y))) H
theorem dec_int {i j : Int} : decide (V.int i = V.int j) = (i == j) := by
  rw [Bool.eq_iff_iff]
  simp
theorem dec_bl {i j : Bool} : decide (V.bl i = V.bl j) = (i == j) := by
  rw [Bool.eq_iff_iff]
  simp
theorem dec_str {i j : Str} : decide (V.str i = V.str j) = (i == j) := by
  rw [Bool.eq_iff_iff]
  simp
theorem dec_byt {i j : Array UInt8} : decide (V.byt i = V.byt j) = (i.toList == j.toList) := by
  rw [Bool.eq_iff_iff]
  cases i
  cases j
  simp
section
variable {X : Cx} {a b c : Expr} {ta tb tc : TE} {pos : Pos}
theorem fin_bl {pins : List (Addr × Obj)} {σ : St} {H : Hp} {s : Shared} {Q : VK} {k k' : Bool} (I : Inv X pins σ H s) (q : Q (.bl k) H) (e : k = k') : EP X pins σ Q (.bool k') s := by
  subst e
  exact ⟨.bl k, H, I, rfl, q⟩
theorem op_eq : OpR X (compareOp .Eq) rEq := by
  intro pins s σ H x y v u Q I rx ry h
  obtain ⟨hs, q⟩ := h
  cases x with
  | non =>
    cases rx
    cases y with
    | non => cases ry; exact PySem.EqNone.eq_none_none (fin_bl I q (by simp))
    | bl j => cases ry; exact PySem.EqNone.eq_none_bool (fin_bl I q (by simp))
    | int j => obtain ⟨t', rfl⟩ := ry; exact PySem.EqNone.eq_none_int (fin_bl I q (by simp))
    | str j => obtain ⟨t', rfl⟩ := ry; exact PySem.EqNone.eq_none_str (fin_bl I q (by simp))
    | _ => exact absurd (show false = true from hs) Bool.false_ne_true
  | bl i =>
    cases rx
    cases y with
    | non => cases ry; exact PySem.EqNone.eq_bool_none (fin_bl I q (by simp))
    | bl j => cases ry; exact eq_bool (fin_bl I q dec_bl)
    | str j => obtain ⟨t', rfl⟩ := ry; exact PySem.EqMixed.eq_bool_str (fin_bl I q (by simp))
    | _ => exact absurd (show false = true from hs) Bool.false_ne_true
  | int i =>
    obtain ⟨t, rfl⟩ := rx
    cases y with
    | non => cases ry; exact PySem.EqNone.eq_int_none (fin_bl I q (by simp))
    | int j => obtain ⟨t', rfl⟩ := ry; exact eq_int (fin_bl I q dec_int)
    | str j => obtain ⟨t', rfl⟩ := ry; exact PySem.EqMixed.eq_int_str (fin_bl I q (by simp))
    | _ => exact absurd (show false = true from hs) Bool.false_ne_true
  | str i =>
    obtain ⟨t, rfl⟩ := rx
    cases y with
    | non => cases ry; exact PySem.EqNone.eq_str_none (fin_bl I q (by simp))
    | bl j => cases ry; exact PySem.EqMixed.eq_str_bool (fin_bl I q (by simp))
    | int j => obtain ⟨t', rfl⟩ := ry; exact PySem.EqMixed.eq_str_int (fin_bl I q (by simp))
    | str j => obtain ⟨t', rfl⟩ := ry; exact eq_str (fin_bl I q dec_str)
    | _ => exact absurd (show false = true from hs) Bool.false_ne_true
  | byt i =>
    obtain ⟨t, rfl⟩ := rx
    cases y with
    | byt j => obtain ⟨t', rfl⟩ := ry; exact PySem.W.eq_bytes (fin_bl I q dec_byt)
    | _ => exact absurd (show false = true from hs) Bool.false_ne_true
  | _ => cases y <;> exact absurd (show false = true from hs) Bool.false_ne_true
theorem op_ne : OpR X (compareOp .NotEq) rNe := by
  intro pins s σ H x y v u Q I rx ry h
  obtain ⟨hs, q⟩ := h
  cases x with
  | non =>
    cases rx
    cases y with
    | non => cases ry; exact PySem.EqNone.ne_none_none (fin_bl I q (by simp))
    | bl j => cases ry; exact PySem.EqNone.ne_none_bool (fin_bl I q (by simp))
    | int j => obtain ⟨t', rfl⟩ := ry; exact PySem.EqNone.ne_none_int (fin_bl I q (by simp))
    | str j => obtain ⟨t', rfl⟩ := ry; exact PySem.EqNone.ne_none_str (fin_bl I q (by simp))
    | _ => exact absurd (show false = true from hs) Bool.false_ne_true
  | bl i =>
    cases rx
    cases y with
    | non => cases ry; exact PySem.EqNone.ne_bool_none (fin_bl I q (by simp))
    | bl j => cases ry; exact ne_bool (fin_bl I q (congrArg not dec_bl))
    | str j => obtain ⟨t', rfl⟩ := ry; exact PySem.EqMixed.ne_bool_str (fin_bl I q (by simp))
    | _ => exact absurd (show false = true from hs) Bool.false_ne_true
  | int i =>
    obtain ⟨t, rfl⟩ := rx
    cases y with
    | non => cases ry; exact PySem.EqNone.ne_int_none (fin_bl I q (by simp))
    | int j => obtain ⟨t', rfl⟩ := ry; exact ne_int (fin_bl I q (congrArg not dec_int))
    | str j => obtain ⟨t', rfl⟩ := ry; exact PySem.EqMixed.ne_int_str (fin_bl I q (by simp))
    | _ => exact absurd (show false = true from hs) Bool.false_ne_true
  | str i =>
    obtain ⟨t, rfl⟩ := rx
    cases y with
    | non => cases ry; exact PySem.EqNone.ne_str_none (fin_bl I q (by simp))
    | bl j => cases ry; exact PySem.EqMixed.ne_str_bool (fin_bl I q (by simp))
    | int j => obtain ⟨t', rfl⟩ := ry; exact PySem.EqMixed.ne_str_int (fin_bl I q (by simp))
    | str j => obtain ⟨t', rfl⟩ := ry; exact ne_str (fin_bl I q (congrArg not dec_str))
    | _ => exact absurd (show false = true from hs) Bool.false_ne_true
  | byt i =>
    obtain ⟨t, rfl⟩ := rx
    cases y with
    | byt j => obtain ⟨t', rfl⟩ := ry; exact PySem.W.ne_bytes (fin_bl I q (congrArg not dec_byt))
    | _ => exact absurd (show false = true from hs) Bool.false_ne_true
  | _ => cases y <;> exact absurd (show false = true from hs) Bool.false_ne_true
theorem op_lt : OpR X (compareOp .Lt) (rI0 fun i j => .bl (decide (i < j))) := opB0 fun _ _ _ _ _ _ _ q => lt_int q
theorem op_le : OpR X (compareOp .LtE) (rI0 fun i j => .bl (decide (i ≤ j))) := opB0 fun _ _ _ _ _ _ _ q => le_int q
theorem op_gt : OpR X (compareOp .Gt) (rI0 fun i j => .bl (decide (j < i))) := opB0 fun _ _ _ _ _ _ _ q => gt_int q
theorem op_ge : OpR X (compareOp .GtE) (rI0 fun i j => .bl (decide (j ≤ i))) := opB0 fun _ _ _ _ _ _ _ q => ge_int q
/-- is, is not of two objects that are tracked lists or instances -/
def isObj : HO → Bool
  | .lst _ => true
  | .ins _ _ _ => true
  | _ => false
/-- two rules for one operation: by cases -/
theorem OpR.or {f : Value → Value → Sem Value} {r r' : R2} (h : OpR X f r) (h' : OpR X f r') : OpR X f (fun x y H Q => r x y H Q ∨ r' x y H Q) := by
  intro pins s σ H x y v u Q I rx ry q
  rcases q with q | q
  · exact h pins s σ H x y v u Q I rx ry q
  · exact h' pins s σ H x y v u Q I rx ry q
theorem nomark (b : Expr) {op : CmpOp} (h : op ≠ .In := by decide) (h2 : op ≠ .NotIn := by decide) : behindInMarks op b = false := by
  have e1 : (op == CmpOp.In) = false := by cases op <;> first | rfl | exact absurd rfl h
  have e2 : (op == CmpOp.NotIn) = false := by cases op <;> first | rfl | exact absurd rfl h2
  cases b <;> simp [behindInMarks, e1, e2]
/-- a comparison as a value; hm: nomark b, or (for in, not in) by with_unfolding_all rfl -/
theorem pe_cmpR {op : CmpOp} {r : R2} (ho : OpR X (compareOp op) r) (ha : PE X a ta) (hb : PE X b tb) (hm : behindInMarks op b = false) : PE X (.Compare a [op] [b] pos) (tOp r ta tb) := by
  intro pins s σ H Q I h
  exact wpAny_Compare1 (binT ha hb I h fun v u s2 x y H2 I2 rx ry q => ho pins s2 σ H2 x y v u Q I2 rx ry q) hm
/-- a reading of a value as a test -/
def tTest (t : TE) : TT := fun σ H Q => t σ H fun x H' => ∃ k, x = .bl k ∧ Q k H'
theorem pt_cmpR {op : CmpOp} {r : R2} (ho : OpR X (compareOp op) r) (ha : PE X a ta) (hb : PE X b tb) (hm : behindInMarks op b = false) : PT X (.Compare a [op] [b] pos) (tTest (tOp r ta tb)) := by
  intro pins s σ H Q I h
  refine wpAny_isTrue_Compare1 (thn (ha pins s σ H _ I h) fun v s1 ⟨x, H1, I1, r1, q1⟩ => thn (hb pins s1 σ H1 _ I1 q1) fun u s2 ⟨y, H2, I2, r2, q2⟩ =>
    thn (ho pins s2 σ H2 x y v u _ I2 r1 r2 q2) fun c s3 ⟨z, H3, I3, r3, k, e, q3⟩ => ?_) hm
  subst e
  cases r3
  exact wpAny_truthy_bool ⟨H3, I3, q3⟩
/-- a op1 b op2 c -/
def tChain (r r' : R2) (ta tb tc : TE) : TE := fun σ H Q => ta σ H fun x H1 => tb σ H1 fun y H2 => r x y H2 fun z H3 => ∃ k, z = .bl k ∧
  (if k = true then tc σ H3 fun w' H4 => r' y w' H4 Q else Q (.bl false) H3)
theorem pe_chain {op op' : CmpOp} {r r' : R2} (ho : OpR X (compareOp op) r) (ho' : OpR X (compareOp op') r') (ha : PE X a ta) (hb : PE X b tb) (hc : PE X c tc)
    (hm : lastMarks [op, op'] [b, c] = false := by with_unfolding_all rfl) : PE X (.Compare a [op, op'] [b, c] pos) (tChain r r' ta tb tc) := by
  intro pins s σ H Q I h
  refine Compare_chain (thn (ha pins s σ H _ I h) fun v s1 ⟨x, H1, I1, r1, q1⟩ => chain_link (thn (hb pins s1 σ H1 _ I1 q1) fun u s2 ⟨y, H2, I2, r2, q2⟩ =>
    thn (ho pins s2 σ H2 x y v u _ I2 r1 r2 q2) fun d s3 ⟨z, H3, I3, r3, k, e, q3⟩ => ?_)) hm
  subst e
  cases r3
  refine wpAny_truthy_bool ?_
  cases k with
  | false => exact ite_ff ⟨.bl false, H3, I3, rfl, q3⟩
  | true => exact ite_tt (chain_last (thn (hc pins s3 σ H3 _ I3 q3) fun w' s4 ⟨z', H4, I4, r4, q4⟩ => ho' pins s4 σ H4 y z' u w' Q I4 r2 r4 q4))
/-! ### truth -/
/-- a value's truth by the abstract heap -/
def TruV (K : PySem.W.Frag) (x : V) (H : Hp) (k : Bool) : Prop :=
  match x with
  | .non => k = false
  | .bl b => k = b
  | .int i => k = (i != 0)
  | .str y => y.length ≤ sizeLine ∧ k = ((y.length : Int) != 0)
  | .byt y => y.size ≤ sizeLine ∧ k = ((y.size : Int) != 0)
  | .ref p => (∃ xs, SqL K H p xs ∧ k = !xs.isEmpty) ∨ (∃ xs, SqT K H p xs ∧ k = !xs.isEmpty) ∨ ∃ kvs, H p = some (.dK kvs) ∧ k = !kvs.isEmpty
  | _ => False
theorem line63 : (sizeLine : Nat) < 2 ^ 63 := by rw [sizeLine_eq]; decide
/-! ### strs and bytes -/
def PlainIxT (b : Expr) : Prop := ∀ o i, subscripted b false o i = operate [o, i] (getItem o i)
/-! ### scalar builtins, by CallR -/
theorem vals1 {x : V} {us : List Value} (r : Vals [x] us) : ∃ u, us = [u] ∧ RelV x u := by
  cases r with
  | cons r1 r2 => cases r2; exact ⟨_, rfl, r1⟩
theorem call_str_int : CallR X (.type "str") (fun xs H Q => ∃ i, xs = [.int i] ∧ i.natAbs.log2 < 1920 ∧ Q (.str (toString i)) H) := by
  intro pins s σ H xs us Q I r h
  obtain ⟨i, rfl, hz, q⟩ := h
  obtain ⟨u, rfl, t, rfl⟩ := vals1 r
  exact PySem.P.str_of_int hz ⟨.str _, H, I.tok _, ⟨_, rfl⟩, q⟩
theorem call_ord : CallR X (.builtin "ord") (fun xs H Q => ∃ x, xs = [.str x] ∧ x.length = 1 ∧ Q (.int (x.cps.getD 0 0 : Nat)) H) := by
  intro pins s σ H xs us Q I r h
  obtain ⟨x, rfl, hz, q⟩ := h
  obtain ⟨u, rfl, t, rfl⟩ := vals1 r
  exact ord_of_one hz ⟨.int _, H, I.tok _, ⟨_, rfl⟩, q⟩
/-- len of a str, a bytes, a list, a tuple -/
def LenV (K : PySem.W.Frag) (x : V) (H : Hp) (n : Nat) : Prop :=
  match x with
  | .str y => y.length ≤ sizeLine ∧ n = y.length
  | .byt y => y.size ≤ sizeLine ∧ n = y.size
  | .ref p => (∃ xs, SqL K H p xs ∧ n = xs.length) ∨ ∃ xs, SqT K H p xs ∧ n = xs.length
  | _ => False
end
end L2
namespace L2
open PySem PySem.Spec PyProof.Rows
/-! ### an instance, its attributes a map -/
structure ObjM (h : Heap) (x dx C : Addr) (mA : Str → Option Value) : Prop where
  obj : h.get? x = some (PySem.W.instObj C dx)
  ns : h.Ns1 dx mA
  ne : dx ≠ x
theorem lookIn_ns {h : Heap} {dx : Addr} {mA : Str → Option Value} (n : h.Ns1 dx mA) : ∃ od, h.get? dx = some od ∧ ∀ name, PySem.W.lookIn name od = some (mA name) := by
  obtain ⟨o, es, ep, ho, hd, hk, _, hm⟩ := n
  refine ⟨o, ho, fun name => ?_⟩
  have e := hm name
  unfold nsFind findBy at e
  rw [← Array.find?_toList] at e
  unfold PySem.W.lookIn
  rw [hd]
  dsimp only
  split
  · rename_i y q
    rw [q] at e
    exact congrArg some e
  · rename_i q
    rw [q] at e
    have a : es.toList.any (·.refKey) = false := by
      rw [List.any_eq_false]
      intro y hy
      obtain ⟨z, t, hkey⟩ := hk y (Array.mem_toList_iff.mp hy)
      simp [DictEntry.refKey, hkey]
    have a' : ¬ es.toList.any (·.refKey) = true := by rw [a]; exact Bool.false_ne_true
    rw [if_neg a']
    exact congrArg some e
theorem ObjM.look {h : Heap} {x dx C : Addr} {mA : Str → Option Value} (I : ObjM h x dx C mA) : ∃ od, PySem.W.InstAt h x (PySem.W.instObj C dx) C (some od) ∧ ∀ name, PySem.W.lookIn name od = some (mA name) :=
  let ⟨od, ho, hl⟩ := lookIn_ns I.ns
  ⟨od, ⟨I.obj, rfl, rfl, ho⟩, hl⟩
section
variable {prog : Program} {w : World} {A : Around} {E : Value → Shared → Prop} {s : Shared} {K : PySem.W.Frag} {x dx C f : Addr} {mA : Str → Option Value} {name : Str} {v : Value}
theorem get_map {expr : Bool} {Q : Value → Shared → Prop} (X : K.In s.heap) (I : ObjM s.heap x dx C mA) (hg : PySem.W.plainGet K C name = true) (hh : PySem.W.hasDictIn K C = true)
    (ha : PySem.W.findIn K (.ref C) name = some none) (hv : mA name = some v) (hv' : PySem.W.handedIn v = true) (h : Q v { s with toks := s.toks + 1 }) :
    wpAny (model prog w) A (getAttr (.ref x) name expr) Q E s := by
  obtain ⟨od, J, hl⟩ := I.look
  exact PySem.W.get_value X J (PySem.W.plainGet_of hg).1 (PySem.W.findObj_own hh ha rfl (by rw [hl, hv])) hv' h
theorem get_meth {pl : Sem Bool} {Q : Value × List Value → Shared → Prop} (X : K.In s.heap) (I : ObjM s.heap x dx C mA) (hg : PySem.W.plainGet K C name = true)
    (hf : PySem.W.findIn K (.ref C) name = some (some (.ref f))) (ht : PySem.W.isFn K (.ref f) = true) (hv : mA name = none) (h : Q (.ref f, [.ref x]) s) :
    wpAny (model prog w) A (getMethod (.ref x) name pl) Q E s := by
  obtain ⟨od, J, hl⟩ := I.look
  exact PySem.W.method_fn X J (PySem.W.plainGet_of hg).1 (PySem.W.plainGet_of hg).2 hf (beq_iff_eq.mp ht) (by show (PySem.W.lookIn name od).map (·.isSome) = some false; rw [hl, hv]; rfl) h
theorem set_map {ns : List Str} {Q : Unit → Shared → Prop} (X : K.In s.heap) (I : ObjM s.heap x dx C mA)
    (hs : PySem.W.findIn K (.ref C) "__setattr__" = some (some (.builtin "object.__setattr__"))) (hp : PySem.W.plainOver K C = true) (ht : PySem.W.takerIn K C name = some none) (hh : PySem.W.hasDictIn K C = true)
    (hw : PySem.Within mA ns) (hsz : ns.length ≤ sizeLine)
    (h : ∀ h', ObjM h' x dx C (fun y => if y = name then some v else mA y) → Heap.SameBut dx s.heap h' → Q () { s with heap := h', toks := s.toks + 2 }) :
    wpAny (model prog w) A (setAttr (.ref x) name v) Q E s := by
  obtain ⟨od, J, hl⟩ := I.look
  refine PySem.W.set_plain X J hs (PySem.W.osa_open (s := { s with toks := s.toks + 1 }) (r := none) X J hp ht fun b => ?_)
  obtain ⟨cd, hc, hd'⟩ := PySem.W.any_some hh
  have hx : s.heap.get? x = some ⟨.ref C, some dx, .plain, #[]⟩ := I.obj
  refine wpAny_bind (wpAny_pure (wpAny_bind (wpAny_bind (wpAny_loadPart hx (wpAny_bind (PySem.W.Looks.here (s := { s with toks := s.toks + 1 }) (PySem.W.looks_clsIn X hc) ?_))))))
  rw [hd']
  refine wpAny_pure (a := some dx) (wpAny_bind (wpAny_pure (wpAny_bind ?_)))
  refine wpAny_nsSet1 (s := { s with toks := s.toks + 1 }) I.ns fun h' hn2 hs2 => ?_
  obtain ⟨oD, esD, epD, hoD, hdD, hcD⟩ := hn2.count (PySem.Within.cons name v hw)
  refine wpAny_bind (wpAny_lookBehind hoD (by rw [hdD]; exact pastItsLine_dict (Nat.le_trans hcD (by rw [List.length_cons]; omega))) ?_)
  exact wpAny_pure (h _ ⟨(hs2.2 _ (Ne.symm I.ne)).trans I.obj, hn2, I.ne⟩ hs2)
/-- C(..): the dict at the heap's end, the instance behind it; then its __init__ -/
theorem make_map {R : Result → Shared → Prop} {vs : List Value} {kw : List (Str × Value)} (X : K.In s.heap) (hm : PySem.W.makesIn K C = true)
    (hi : PySem.W.findIn K (.ref C) "__init__" = some (some (.ref f))) (hf : PySem.W.typeIn K (.ref f) = some (.type "function"))
    (h : codeAny (model prog w) (A.under (.builtin "type.__call__" ⟨.ref C :: vs, kw⟩)) (.call (.ref f) ⟨.ref (s.heap.objs.size + 1) :: vs, kw⟩) (PySem.W.InitBack (s.heap.objs.size + 1) R)
      { s with heap := (s.heap.push PySem.W.emptyDict).push (PySem.W.instObj C s.heap.objs.size) }) :
    codeAny (model prog w) A (.call (.ref C) ⟨vs, kw⟩) R s := by
  obtain ⟨hh, g, d, t, os⟩ := s
  exact PySem.W.make_core (PySem.W.makes_of X hm) (PySem.W.looks_findIn X hi) (fun self => PySem.W.bind_fn X self hf) (.inl rfl) h
end
/-! ### the attributes as a list of pairs -/
def putF (f : Str) (v : V) : List (Str × V) → List (Str × V)
  | [] => [(f, v)]
  | (g, x) :: r => if g = f then (g, v) :: r else (g, x) :: putF f v r
theorem lookup_putF (f g : Str) (v : V) : ∀ fs : List (Str × V), (putF f v fs).lookup g = if g = f then some v else fs.lookup g
  | [] => by
    show List.lookup g [(f, v)] = _
    by_cases h : g = f
    · have hb : (g == f) = true := beq_iff_eq.mpr h
      simp only [List.lookup, hb, if_pos h]
    · have hb : (g == f) = false := beq_eq_false_iff_ne.mpr h
      simp only [List.lookup, hb, if_neg h]
  | (k, x) :: r => by
    have ih := lookup_putF f g v r
    rw [show putF f v ((k, x) :: r) = (if k = f then (k, v) :: r else (k, x) :: putF f v r) from rfl]
    by_cases hk : k = f
    · rw [if_pos hk]
      by_cases h : g = k
      · have hb : (g == k) = true := beq_iff_eq.mpr h
        simp only [List.lookup, hb, if_pos (h.trans hk)]
      · have hb : (g == k) = false := beq_eq_false_iff_ne.mpr h
        simp only [List.lookup, hb, if_neg (fun e : g = f => h (e.trans hk.symm))]
    · rw [if_neg hk]
      by_cases h : g = k
      · have hb : (g == k) = true := beq_iff_eq.mpr h
        simp only [List.lookup, hb, if_neg (fun e : g = f => hk (h.symm.trans e))]
      · have hb : (g == k) = false := beq_eq_false_iff_ne.mpr h
        simp only [List.lookup, hb]
        exact ih
theorem keys_putF (f : Str) (v : V) : ∀ fs : List (Str × V), f ∈ (putF f v fs).map (·.1) ∧ ∀ g, g ∈ fs.map (·.1) → g ∈ (putF f v fs).map (·.1)
  | [] => ⟨by simp [putF], fun g h => by simp at h⟩
  | (k, x) :: r => by
    obtain ⟨i1, i2⟩ := keys_putF f v r
    rw [show putF f v ((k, x) :: r) = (if k = f then (k, v) :: r else (k, x) :: putF f v r) from rfl]
    by_cases hk : k = f
    · rw [if_pos hk]
      subst hk
      exact ⟨by simp, fun g h => by simpa using h⟩
    · rw [if_neg hk]
      refine ⟨?_, fun g h => ?_⟩
      · rw [List.map_cons]
        exact List.mem_cons_of_mem _ i1
      · rw [List.map_cons] at h ⊢
        rcases List.mem_cons.mp h with e | e
        · exact List.mem_cons.mpr (.inl e)
        · exact List.mem_cons_of_mem _ (i2 g e)
theorem length_putF (f : Str) (v : V) : ∀ fs : List (Str × V), (putF f v fs).length ≤ fs.length + 1
  | [] => by simp [putF]
  | (k, x) :: r => by
    have ih := length_putF f v r
    rw [show putF f v ((k, x) :: r) = (if k = f then (k, v) :: r else (k, x) :: putF f v r) from rfl]
    by_cases hk : k = f
    · rw [if_pos hk, List.length_cons, List.length_cons]; omega
    · rw [if_neg hk, List.length_cons, List.length_cons]; omega
theorem RelO.some_of {v : V} {o : Option Value} (r : RelO (some v) o) : ∃ u, o = some u ∧ RelV v u := by
  cases o with
  | none => exact (show False from r).elim
  | some u => exact ⟨u, rfl, r⟩
theorem RelO.none_of {o : Option Value} (r : RelO none o) : o = none := by
  cases o with
  | none => rfl
  | some u => exact (show False from r).elim
theorem handed_of {v : V} {u : Value} (r : RelV v u) : PySem.W.handedIn u = true := by
  cases v with
  | non => cases (show u = Value.none from r); rfl
  | bl b => cases (show u = Value.bool b from r); rfl
  | int i => obtain ⟨t, e⟩ := (show ∃ t, u = Value.int i t from r); cases e; rfl
  | str x => obtain ⟨t, e⟩ := (show ∃ t, u = Value.str x t from r); cases e; rfl
  | byt b => obtain ⟨t, e⟩ := (show ∃ t, u = Value.bytes b t from r); cases e; rfl
  | flt b => obtain ⟨t, e⟩ := (show ∃ t, u = Value.float b t from r); cases e; rfl
  | ref a => cases (show u = Value.ref a from r); rfl
  | ty n => cases (show u = Value.type n from r); rfl
section
variable {P : Program} {w : World} {H H' : Hp} {h h' : Heap} {a C dx : Addr} {fs fs' : List (Str × V)}
theorem ins_get (hok : HOk P w H h) (e : H a = some (.ins C dx fs)) : ∃ mA, ObjM h a dx C mA ∧ (∀ f, RelO (fs.lookup f) (mA f)) ∧ PySem.Within mA (fs.map (·.1)) ∧ fs.length ≤ 1000 ∧ H dx = some (.own a) := by
  obtain ⟨d, z, ne, ob, mA, n, r, q⟩ := (show ObjOk P w H h a (.ins C dx fs) from hok a _ e)
  exact ⟨mA, ⟨ob, n, ne⟩, r, q, z, d⟩
end
/-! ### what of the text a class must have -/
structure Cls (K : PySem.W.Frag) (C : Addr) : Prop where
  pg : PySem.W.plainGet K C Str.empty = true
  hd : PySem.W.hasDictIn K C = true
  po : PySem.W.plainOver K C = true
  sa : PySem.W.findIn K (.ref C) "__setattr__" = some (some (.builtin "object.__setattr__"))
theorem Cls.get {K : PySem.W.Frag} {C : Addr} (c : Cls K C) (f : Str) : PySem.W.plainGet K C f = true := c.pg
/-- no class of it has the name -/
def NoAttr (K : PySem.W.Frag) (C : Addr) (f : Str) : Prop := PySem.W.findIn K (.ref C) f = some none
theorem NoAttr.taker {K : PySem.W.Frag} {C : Addr} {f : Str} (n : NoAttr K C f) : PySem.W.takerIn K C f = some none := by
  unfold PySem.W.takerIn
  rw [show PySem.W.findIn K (.ref C) f = some none from n]
  rfl
/-- a constant of the class -/
structure Con (K : PySem.W.Frag) (C : Addr) (f : Str) (v : V) (u : Value) : Prop where
  at_ : PySem.W.findIn K (.ref C) f = some (some u)
  rel : RelV v u
  get : PySem.W.specialIn K u "__get__" = some none
  cp : PySem.W.copiedNames.contains f = false
/-- a method: a plain def of the class or of one above it -/
structure Meth (K : PySem.W.Frag) (C : Addr) (m : Str) (f : Addr) : Prop where
  at_ : PySem.W.findIn K (.ref C) m = some (some (.ref f))
  fn : PySem.W.isFn K (.ref f) = true
  kp : PySem.W.keepIn K (.ref f) = true
section
variable {X : Cx} {pins : List (Addr × Obj)} {σ : St} {H : Hp} {s : Shared} {a C dx : Addr} {fs : List (Str × V)} {f : Str} {v : V} {A : Around} {E : Value → Shared → Prop}
theorem getattr_ok {b : Bool} {Q : Value → Shared → Prop} (I : Inv X pins σ H s) (e : H a = some (.ins C dx fs)) (c : Cls X.K C) (n : NoAttr X.K C f) (l : fs.lookup f = some v)
    (h : ∀ u s', Inv X pins σ H s' → RelV v u → Q u s') : wpAny (model X.prog X.w) A (getAttr (.ref a) f b) Q E s := by
  obtain ⟨mA, O, r, _, _, _⟩ := ins_get I.hok e
  obtain ⟨u, hu, ru⟩ := RelO.some_of (v := v) (o := mA f) (by rw [← l]; exact r f)
  exact get_map I.kIn O (c.get f) c.hd n hu (handed_of ru) (h u _ (I.tok _) ru)
theorem getmeth_ok {m : Str} {g : Addr} {pl : Sem Bool} {Q : Value × List Value → Shared → Prop} (I : Inv X pins σ H s) (e : H a = some (.ins C dx fs)) (c : Cls X.K C) (k : Meth X.K C m g) (l : fs.lookup m = none)
    (h : Q (.ref g, [.ref a]) s) : wpAny (model X.prog X.w) A (getMethod (.ref a) m pl) Q E s := by
  obtain ⟨mA, O, r, _, _, _⟩ := ins_get I.hok e
  have hn : mA m = none := RelO.none_of (by rw [← l]; exact r m)
  exact get_meth I.kIn O (c.get m) k.at_ k.fn hn h
theorem setattr_ok {y : V} {u : Value} {Q : Unit → Shared → Prop} (I : Inv X pins σ H s) (e : H a = some (.ins C dx fs)) (c : Cls X.K C) (n : NoAttr X.K C f) (hl : fs.length < 1000) (ry : RelV y u)
    (h : ∀ s', Inv X pins σ (upd H a (.ins C dx (putF f y fs))) s' → Q () s') : wpAny (model X.prog X.w) A (setAttr (.ref a) f u) Q E s := by
  obtain ⟨mA, O, r, wi, _, ho⟩ := ins_get I.hok e
  have hz : (fs.map (·.1)).length ≤ sizeLine := by rw [List.length_map, sizeLine_eq]; omega
  refine set_map I.kIn O c.sa c.po n.taker c.hd wi hz fun h' O' sb => h _ ?_
  have hd : ∃ o, h'.get? dx = some o := let ⟨o, _, _, e', _⟩ := O'.ns; ⟨o, e'⟩
  refine I.write (x := a) (e := dx) (by rw [e]; exact True.intro) (.inr ho) (fun b q hb z => (sb.2 b hb).trans z) hd ?_
  refine ⟨by rw [upd_ne O.ne]; exact ho, ?_, O.ne, O'.obj, _, O'.ns, fun g => ?_, fun g hg => ?_⟩
  · have := length_putF f y fs; omega
  · show RelO ((putF f y fs).lookup g) (if g = f then some u else mA g)
    rw [lookup_putF]
    by_cases q : g = f
    · rw [if_pos q, if_pos q]; exact ry
    · rw [if_neg q, if_neg q]; exact r g
  · by_cases q : g = f
    · rw [q]; exact (keys_putF f y fs).1
    · refine (keys_putF f y fs).2 g (wi g fun z => hg ?_)
      show (if g = f then some u else mA g) = none
      rw [if_neg q]; exact z
/-- a new instance, tracked, without attributes -/
theorem Inv.made (I : Inv X pins σ H s) : Inv X pins σ (upd (upd H s.heap.objs.size (.own (s.heap.objs.size + 1))) (s.heap.objs.size + 1) (.ins C s.heap.objs.size []))
    { s with heap := (s.heap.push PySem.W.emptyDict).push (PySem.W.instObj C s.heap.objs.size) } := by
  have e1 : (s.heap.push PySem.W.emptyDict).get? s.heap.objs.size = some PySem.W.emptyDict := Heap.get?_push_size s.heap rfl
  have e2 : ((s.heap.push PySem.W.emptyDict).push (PySem.W.instObj C s.heap.objs.size)).get? (s.heap.objs.size + 1) = some (PySem.W.instObj C s.heap.objs.size) := by
    have := Heap.get?_push_size (s.heap.push PySem.W.emptyDict) (o := PySem.W.instObj C s.heap.objs.size) rfl
    rwa [Heap.size_push] at this
  have e3 : (s.heap.push PySem.W.emptyDict).Ns s.heap.objs.size (fun _ => none) := ⟨PySem.W.emptyDict, #[], _, e1, rfl, (fun e he => absurd he (by simp)), fun _ => rfl⟩
  have I1 := I.laid (a := s.heap.objs.size) (o := .own (s.heap.objs.size + 1)) (h' := s.heap.push PySem.W.emptyDict) (t' := s.toks) (fun b u q => Heap.get?_push_of_some _ q) (Nat.le_refl _) ⟨_, e1⟩
  refine I1.laid (a := s.heap.objs.size + 1) (o := .ins C s.heap.objs.size []) (t' := s.toks) (fun b u q => Heap.get?_push_of_some _ q) (Nat.le_of_eq (Heap.size_push _ _)) ?_
  have ne : s.heap.objs.size ≠ s.heap.objs.size + 1 := Nat.ne_of_lt (Nat.lt_succ_self _)
  refine ⟨by rw [upd_ne ne, upd_same], Nat.zero_le _, ne, e2, fun _ => none, (Heap.Ns1.of_empty e3).at fun o q => Heap.get?_push_of_some _ q, fun _ => True.intro, fun y hy => absurd rfl hy⟩
/-- e.f where nothing but the object is asked: through attributeBase (super) and the last hold -/
theorem attr_of {prog : Program} {w : World} {env : Env} {e : Expr} {f : Str} {pos : Pos} {s : Shared} {Q : Value → Shared → Prop} (hb : attributeBase e f env (eval e env) = eval e env)
    (h : wpAny (model prog w) A (eval e env) (fun o s₁ => wpAny (model prog w) A (getAttr o f true) Q E s₁) E s) : wpAny (model prog w) A (eval (.Attribute e f pos) env) Q E s :=
  Attribute_any_ h (by rw [arm_eval_Attribute, hb])
end
/-! ### readings and rules -/
/-- e.f, an attribute of the instance -/
def tFld (K : PySem.W.Frag) (ta : TE) (f : Str) : TE := fun σ H Q => ta σ H fun x H1 => ∃ a C dx fs v, x = .ref a ∧ H1 a = some (.ins C dx fs) ∧ Cls K C ∧ NoAttr K C f ∧ fs.lookup f = some v ∧ Q v H1
/-- e.f, a constant of the class -/
def tCon (K : PySem.W.Frag) (ta : TE) (f : Str) : TE := fun σ H Q => ta σ H fun x H1 => ∃ a C dx fs v u, x = .ref a ∧ H1 a = some (.ins C dx fs) ∧ Cls K C ∧ Con K C f v u ∧ fs.lookup f = none ∧ Q v H1
/-- e.f = value -/
def sFld (K : PySem.W.Frag) (ta tv : TE) (f : Str) : TS := fun D σ H => tv σ H fun y H1 => ta σ H1 fun x H2 => ∃ a C dx fs, x = .ref a ∧ H2 a = some (.ins C dx fs) ∧ Cls K C ∧ NoAttr K C f ∧ fs.length < 1000 ∧
  D.nx σ (upd H2 a (.ins C dx (putF f y fs)))
/-- an augmented operator on two values -/
def InOp (X : Cx) (op : Operator) (rd : V → V → Hp → VK → Prop) : Prop :=
  ∀ (pins : List (Addr × Obj)) (s : Shared) (σ : St) (H : Hp) (x y : V) (u v : Value) (Q : VK), Inv X pins σ H s → RelV x u → RelV y v → rd x y H Q → wpAny (model X.prog X.w) X.A (inplaceOp op u v) (EP X pins σ Q) X.xe s
/-- e.f op= value -/
def sFldAug (K : PySem.W.Frag) (ta tv : TE) (rd : V → V → Hp → VK → Prop) (f : Str) : TS := fun D σ H => ta σ H fun x H1 => ∃ a C dx fs v, x = .ref a ∧ H1 a = some (.ins C dx fs) ∧ Cls K C ∧ NoAttr K C f ∧ fs.lookup f = some v ∧
  tv σ H1 fun y H2 => rd v y H2 fun z H3 => ∃ dx' fs', H3 a = some (.ins C dx' fs') ∧ fs'.length < 1000 ∧ D.nx σ (upd H3 a (.ins C dx' (putF f z fs')))
section
variable {X : Cx} {o e value : Expr} {f : Str} {pos pos' tpos : Pos} {ta tv : TE}
theorem pe_fld (he : PE X e ta) (hb : attributeBase e f X.env (eval e X.env) = eval e X.env) : PE X (.Attribute e f pos) (tFld X.K ta f) := by
  intro pins s σ H Q I h
  refine attr_of hb (thn (he pins s σ H _ I h) fun u s1 ⟨x, H1, I1, rx, a, C, dx, fs, v, ex, ea, c, n, l, q⟩ => ?_)
  subst ex
  obtain rfl : u = Value.ref a := rx
  exact getattr_ok I1 ea c n l fun u' s2 I2 ru => ⟨v, H1, I2, ru, q⟩
theorem ps_fld (ha : PE X o ta) (hv : PE X value tv) (hs : swapsWith value (some (.Attribute o f pos')) pos.line X.env = pure false) : PS X (.Assign [.Attribute o f pos'] value pos) (sFld X.K ta tv f) := by
  intro pins s σ H D I h
  refine plainObj_wpAny_Assign_Attribute (thn (hv pins s σ H _ I h) fun u s1 ⟨y, H1, I1, ry, q⟩ => thn (ha pins s1 σ H1 _ I1 q) fun ov s2 ⟨x, H2, I2, rx, a, C, dx, fs, ex, ea, c, n, l, q2⟩ => ?_) hs
  subst ex
  obtain rfl : ov = Value.ref a := rx
  exact setattr_ok I2 ea c n l ry fun s3 I3 => ⟨σ, _, I3, q2⟩
def rAdd : V → V → Hp → VK → Prop := fun x y H Q => ∃ i j, x = .int i ∧ y = .int j ∧ Q (.int (i + j)) H
def rSub : V → V → Hp → VK → Prop := fun x y H Q => ∃ i j, x = .int i ∧ y = .int j ∧ Q (.int (i - j)) H
end
/-! ### isinstance -/
section
variable {X : Cx} {pins : List (Addr × Obj)} {σ : St} {H : Hp} {s : Shared} {A : Around} {E : Value → Shared → Prop} {Q : Value → Shared → Prop} {c : Value} {b : Bool}
/-- the type of a value, as the fragment's deciders take it; for an instance its class -/
inductive TyOf (K : PySem.W.Frag) (H : Hp) : V → Value → Prop where
  | non : TyOf K H .non (.type "NoneType")
  | bl (x : Bool) : TyOf K H (.bl x) (.type "bool")
  | int (i : Int) : TyOf K H (.int i) (.type "int")
  | str (x : Str) : TyOf K H (.str x) (.type "str")
  | flt (x : UInt64) : TyOf K H (.flt x) (.type "float")
  | lst {a : Addr} {xs : List V} (e : H a = some (.lst xs)) : TyOf K H (.ref a) (.type "list")
  | frz {a : Addr} {o : Obj} {xs : List V} (e : H a = some (.frz o (.lst xs))) : TyOf K H (.ref a) (.type "list")
  | tup {a : Addr} {xs : List V} (e : H a = some (.tup xs)) : TyOf K H (.ref a) (.type "tuple")
  | dK {a : Addr} {kvs : List (Key × V)} (e : H a = some (.dK kvs)) : TyOf K H (.ref a) (.type "dict")
  | dT {a : Addr} {kvs : List (List Key × V)} (e : H a = some (.dT kvs)) : TyOf K H (.ref a) (.type "dict")
  | ins {a C dx : Addr} {fs : List (Str × V)} (e : H a = some (.ins C dx fs)) (cl : Cls K C) (ha : PySem.W.findIn K (.ref C) "__class__" = some (some (.builtin "object.__class__")))
      (hn : PySem.W.specialIn K (.builtin "object.__class__") "__get__" = some (some (.builtin "getset_descriptor.__get__"))) (htk : PySem.W.takesIn K (.builtin "object.__class__") = some true)
      (hm : PySem.W.mroIn K C (.type "object") = some true) : TyOf K H (.ref a) (.ref C)
end
end L2
namespace L2
open PySem PySem.Spec PyProof.Rows
/-! ### room -/
structure Room (k : Nat) (A : Around) : Prop where
  hd : A.handled = none
  dp : A.depth + 3 * k + 5 < recursionLimit
  un : A.units + 16 * k + 200 < cLine
theorem Room.mono {j k : Nat} {A : Around} (r : Room k A) (h : j ≤ k) : Room j A := ⟨r.hd, by have := r.dp; omega, by have := r.un; omega⟩
theorem Room.deeper {k : Nat} {A : Around} (r : Room (k + 1) A) (env : Env) : Room k (A.deeper env) :=
  ⟨r.hd, by have := r.dp; show A.depth + 1 + 3 * k + 5 < _; omega, by have := r.un; show A.units + 3 + 16 * k + 200 < _; omega⟩
theorem Room.in1 {k : Nat} {A : Around} (r : Room (k + 1) A) : Room k A.in1 :=
  ⟨r.hd, by have := r.dp; show A.depth + 3 * k + 5 < _; omega, by have := r.un; show A.units + 1 + 16 * k + 200 < _; omega⟩
theorem make_depth {A : Around} {C : Addr} {us : List Value} {kw : List (Str × Value)} : (A.under (.builtin "type.__call__" ⟨.ref C :: us, kw⟩)).depth = A.depth + 1 := by
  first | rfl | simp [Around.under, Code.weight, Code.isCreation, Code.isGuard, Code.isCaller, Code.frames, Code.isFrame, guardIds]
theorem make_units {A : Around} {C : Addr} {us : List Value} {kw : List (Str × Value)} : (A.under (.builtin "type.__call__" ⟨.ref C :: us, kw⟩)).units = A.units + 1 := by
  first | rfl | simp [Around.under, Code.cUnits, Code.frames, Code.isFrame]
theorem Room.make {k : Nat} {A : Around} (r : Room (k + 1) A) (C : Addr) (us : List Value) (kw : List (Str × Value)) : Room k (A.under (.builtin "type.__call__" ⟨.ref C :: us, kw⟩)) :=
  ⟨r.hd, by have := r.dp; rw [make_depth]; omega, by have := r.un; rw [make_units]; omega⟩
theorem Room.depth {k : Nat} {A : Around} (r : Room k A) : A.depth < recursionLimit := by have := r.dp; omega
theorem Room.units {k : Nat} {A : Around} (r : Room k A) : A.units + 64 < cLine := by have := r.un; omega
/-! ### argument lists and displays -/
def tNil : TA := fun _ H Q => Q [] H
def tCons (ta : TE) (tr : TA) : TA := fun σ H Q => ta σ H fun x H1 => tr σ H1 fun xs H2 => Q (x :: xs) H2
section
variable {X : Cx} {e : Expr} {es : List Expr} {te : TE} {t : TA} {pos : Pos}
theorem pa_nil : PA X [] tNil := fun _ _ _ _ H Q I h => Calls.spliced_nil ⟨[], H, I, .nil, h⟩
theorem pa_cons (ha : PE X e te) (hr : PA X es t) (hs : starEach (e :: es) X.env = (false, eval e X.env) :: starEach es X.env := by rfl) : PA X (e :: es) (tCons te t) := by
  intro pos pins s σ H Q I h
  rw [hs]
  show wpAny _ _ (spliced ((false, eval e X.env) :: backTo pos (starEach es X.env))) _ _ s
  refine Calls.spliced_cons (thn (ha pins s σ H _ I h) fun u s1 ⟨x, H1, I1, r1, q1⟩ => ?_)
  exact thn (hr pos pins s1 σ H1 _ I1 q1) fun us s2 ⟨xs, H2, I2, r2, q2⟩ => ⟨x :: xs, H2, I2, .cons r1 r2, q2⟩
/-- a tuple, a list of written items -/
def tTup (t : TA) : TE := fun σ H Q => t σ H fun xs H1 => xs.length ≤ sizeLine ∧ ∀ p, H1 p = none → Q (.ref p) (upd H1 p (.tup xs))
def tLst (t : TA) : TE := fun σ H Q => t σ H fun xs H1 => xs.length ≤ sizeLine ∧ ∀ p, H1 p = none → Q (.ref p) (upd H1 p (.lst xs))
theorem pe_tup {x1} (h : PA X es t) : PE X (.Tuple es x1 pos) (tTup t) := by
  intro pins s σ H Q I hq
  refine wpAny_Tuple_spliced (thn (h pos pins s σ H _ I hq) fun us s1 ⟨xs, H1, I1, r, z, q⟩ => ⟨by rw [← r.length]; exact z, ?_⟩)
  have hf : H1 s1.heap.objs.size = none := I1.hok.fresh (Nat.le_refl _)
  refine ⟨.ref s1.heap.objs.size, upd H1 s1.heap.objs.size (.tup xs), I1.laid (t' := s1.toks) (fun b u e => Heap.get?_push_of_some _ e) (Nat.le_refl _) ?_, rfl, q _ hf⟩
  exact ⟨z, us, r, ⟨_, Heap.get?_push_size _ rfl, rfl, _, rfl⟩⟩
theorem pe_lst (h : PA X es t) : PE X (.List es pos) (tLst t) := by
  intro pins s σ H Q I hq
  refine wpAny_List_spliced (thn (h pos pins s σ H _ I hq) fun us s1 ⟨xs, H1, I1, r, z, q⟩ => ⟨by rw [← r.length]; exact z, ?_⟩)
  have hf : H1 s1.heap.objs.size = none := I1.hok.fresh (Nat.le_refl _)
  refine ⟨.ref s1.heap.objs.size, upd H1 s1.heap.objs.size (.lst xs), I1.laid (t' := s1.toks) (fun b u e => Heap.get?_push_of_some _ e) (Nat.le_refl _) ?_, rfl, q _ hf⟩
  exact ⟨z, us, 0, r, Heap.get?_push_size _ rfl⟩
end
/-! ### what a def promises -/
/-- a def's promise: the bound arguments in the parameters' order, the heap, the wanted end, the wanted exception -/
abbrev Sp := List V → Hp → VK → XK → Prop
/-- how an exception lies behind a call (file 08 gives it): the callers' frames, abstract heap and state ahead of the call, the wish, the exception, the state -/
abbrev CXT := List Env → Hp → Shared → XK → Value → Shared → Prop
/-- the state at a call -/
structure Env0 (P : Program) (w : World) (K : PySem.W.Frag) (mg : Str → Option Value) (base : Heap) (A : Around) (outer : List Env) (s : Shared) (H : Hp) : Prop where
  frames : A.frames = some outer
  mod : Mod K mg base
  bs : ∀ b o, base.get? b = some o → s.heap.get? b = some o ∧ H b = none
  bsz : base.objs.size ≤ s.heap.objs.size
  funs : s.heap.FunFrames base outer
  frf : ∀ b ∈ frs outer, H b = none
  hok : HOk P w H s.heap
  bare : AllBare s.gens
/-- a call's end -/
def CE (outer : List Env) (P : Program) (w : World) (H : Hp) (s : Shared) (Q : VK) (u : Value) (s' : Shared) : Prop :=
  ∃ v H', s'.os = s.os ∧ AllBare s'.gens ∧ Un (frs outer) [] H H' s.heap s'.heap ∧ HOk P w H' s'.heap ∧ RelV v u ∧ Q v H'
def CR (CX : CXT) (outer : List Env) (P : Program) (w : World) (H : Hp) (s : Shared) (Q : VK) (E : XK) (r : Result) (s' : Shared) : Prop :=
  match r with
  | .ok (.ret u) => CE outer P w H s Q u s'
  | .ok _ => False
  | .error e => CX outer H s E e s'
structure FnOk (P : Program) (w : World) (K : PySem.W.Frag) (mg : Str → Option Value) (base : Heap) (CX : CXT) (k : Nat) (f : Addr) (fd : FuncData) (ps : List Str) (sp : Sp) : Prop where
  len : ∀ vs H Q E, sp vs H Q E → vs.length = ps.length
  run : ∀ (A : Around) (outer : List Env) (s : Shared) (H : Hp) (args : Args) (us : List Value) (vs : List V) (Q : VK) (E : XK), Room k A → Env0 P w K mg base A outer s H → BindsTo s fd args (ps.zip us) → Vals vs us → sp vs H Q E →
    codeAny (model P w) A (.call (.ref f) args) (CR CX outer P w H s Q E) s
theorem FnOk.mono {P : Program} {w : World} {K : PySem.W.Frag} {mg : Str → Option Value} {base : Heap} {CX : CXT} {j k : Nat} {f : Addr} {fd : FuncData} {ps : List Str} {sp : Sp} (F : FnOk P w K mg base CX j f fd ps sp) (h : j ≤ k) :
    FnOk P w K mg base CX k f fd ps sp := ⟨F.len, fun A outer s H args us vs Q E hr => F.run A outer s H args us vs Q E (hr.mono h)⟩
/-- a weaker promise -/
theorem FnOk.imp {P : Program} {w : World} {K : PySem.W.Frag} {mg : Str → Option Value} {base : Heap} {CX : CXT} {k : Nat} {f : Addr} {fd : FuncData} {ps : List Str} {sp sp' : Sp} (F : FnOk P w K mg base CX k f fd ps sp)
    (h : ∀ vs H Q E, sp' vs H Q E → sp vs H Q E) : FnOk P w K mg base CX k f fd ps sp' :=
  ⟨fun vs H Q E q => F.len vs H Q E (h _ _ _ _ q), fun A outer s H args us vs Q E hr he hb hv hs => F.run A outer s H args us vs Q E hr he hb hv (h _ _ _ _ hs)⟩
theorem Env0.make {P : Program} {w : World} {K : PySem.W.Frag} {mg : Str → Option Value} {base : Heap} {A : Around} {outer : List Env} {s : Shared} {H : Hp} (e : Env0 P w K mg base A outer s H) (C : Addr) (us : List Value) (kw : List (Str × Value)) :
    Env0 P w K mg base (A.under (.builtin "type.__call__" ⟨.ref C :: us, kw⟩)) outer s H := ⟨by first | exact e.frames | (simpa [Around.under, Code.envs, Code.isFrame, pushEnvs] using e.frames), e.mod, e.bs, e.bsz, e.funs, e.frf, e.hok, e.bare⟩
theorem Env0.in1 {P : Program} {w : World} {K : PySem.W.Frag} {mg : Str → Option Value} {base : Heap} {A : Around} {outer : List Env} {s : Shared} {H : Hp} (e : Env0 P w K mg base A outer s H) :
    Env0 P w K mg base A.in1 outer s H := ⟨e.frames, e.mod, e.bs, e.bsz, e.funs, e.frf, e.hok, e.bare⟩
section
variable {X : Cx} {pins : List (Addr × Obj)} {σ : St} {H : Hp} {s s' : Shared}
/-- from a body: what a callee wants -/
theorem Inv.env0 (I : Inv X pins σ H s) : Env0 X.prog X.w X.K X.mg X.base X.A X.stack s H :=
  ⟨I.ok.frames, I.ok.mod, I.bs, Nat.le_trans I.ok.bsz I.sz, I.stack, I.stkFree, I.hok, I.bare⟩
/-- behind a call -/
theorem Inv.after {Q : VK} {u : Value} (I : Inv X pins σ H s) (h : CE X.stack X.prog X.w H s Q u s') : EP X pins σ Q u s' := by
  obtain ⟨v, H', os, bare, un, hok, r, q⟩ := h
  obtain ⟨hh, g, d, t, os'⟩ := s'
  obtain rfl : os' = s.os := os
  exact ⟨v, H', I.call (h' := hh) (g' := g) (d' := d) (t' := t) (ch := []) un hok bare (fun b z => absurd z (by simp)), r, q⟩
end
/-! ### calls -/
/-- f(..): the written arguments, then the defaults dvs; E: what is wanted of an exception -/
def tCall (sp : Sp) (dvs : List V) (E : XK) (t : TA) : TE := fun σ H Q => t σ H fun vs H1 => sp (vs ++ dvs) H1 Q E
/-- o.m(..) of an instance of the class at C -/
def tMeth (C : Addr) (m : Str) (sp : Sp) (dvs : List V) (E : XK) (ta : TE) (t : TA) : TE := fun σ H Q => ta σ H fun x H1 => ∃ a dx fs, x = .ref a ∧ H1 a = some (.ins C dx fs) ∧ fs.lookup m = none ∧
  t σ H1 fun vs H2 => sp (x :: (vs ++ dvs)) H2 Q E
/-- C(..): a new instance and its dict, then __init__ -/
def tMake (C : Addr) (sp : Sp) (dvs : List V) (E : XK) (t : TA) : TE := fun σ H Q => t σ H fun vs H1 => ∀ x dx, H1 x = none → H1 dx = none → dx ≠ x →
  sp (.ref x :: (vs ++ dvs)) (upd (upd H1 dx (.own x)) x (.ins C dx [])) (fun v H2 => v = .non ∧ Q (.ref x) H2) E
/-- how the parameters are bound: us the positional arguments, kw the keywords' values by name, ds the defaults that fill up -/
def Binds (K : PySem.W.Frag) (fd : FuncData) (ps : List Str) (ds : List Value) : Prop :=
  ∀ (s : Shared) (us : List Value), K.In s.heap → (us ++ ds).length = ps.length → BindsTo s fd ⟨us, []⟩ (ps.zip (us ++ ds))
/-- every parameter is given -/
theorem Binds.all {K : PySem.W.Frag} {fd : FuncData} {ps : List Str} (h : ∀ us : List Value, us.length = ps.length → bindArgs fd ⟨us, []⟩ = pure (ps.zip us)) : Binds K fd ps [] := fun s us _ hl => by
  rw [List.append_nil] at hl ⊢
  exact .of_eq (h us hl)
/-- an exception of a callee reaches what this body wants of exceptions -/
def Passes (CX : CXT) (X : Cx) (E : XK) : Prop := ∀ (pins : List (Addr × Obj)) (σ : St) (H : Hp) (s : Shared) (e : Value) (s' : Shared), Inv X pins σ H s → CX X.stack H s E e s' → X.xe e s'
section
variable {X : Cx} {CX : CXT} {k : Nat} {f C : Addr} {fd : FuncData} {ps : List Str} {sp : Sp} {dvs : List V} {ds : List Value} {E : XK} {x m : Str} {p pos apos : Pos} {e o : Expr} {es : List Expr} {ta : TE} {t : TA}
/-- the callee runs -/
theorem run_fn {pins : List (Addr × Obj)} {σ : St} {H : Hp} {s : Shared} {Q : VK} {us : List Value} {vs : List V} (F : FnOk X.prog X.w X.K X.mg X.base CX k f fd ps sp) (hr : Room k X.A) (hb : Binds X.K fd ps ds) (hd : Vals dvs ds) (hx : Passes CX X E)
    (I : Inv X pins σ H s) (r : Vals vs us) (h : sp (vs ++ dvs) H Q E) : wpAny (model X.prog X.w) X.A (call (.ref f) us) (EP X pins σ Q) X.xe s := by
  have r2 : Vals (vs ++ dvs) (us ++ ds) := r.append hd
  have hl : (us ++ ds).length = ps.length := by rw [← r2.length]; exact F.len _ _ _ _ h
  refine wpAny_call (codeAny_mono (F.run X.A X.stack s H ⟨us, []⟩ (us ++ ds) (vs ++ dvs) Q E hr I.env0 (hb s us I.kIn hl) r2 h) fun r s' hq => ?_)
  cases r with
  | error e => exact hx pins σ H s e s' I hq
  | ok fl =>
    cases fl with
    | ret u => exact I.after hq
    | next => exact False.elim hq
    | brk => exact False.elim hq
    | cont => exact False.elim hq
theorem pe_call (F : FnOk X.prog X.w X.K X.mg X.base CX k f fd ps sp) (hr : Room k X.A) (hg : Gl X x) (hm : X.mg x = some (.ref f)) (hk : PySem.W.keepIn X.K (.ref f) = true) (hb : Binds X.K fd ps ds) (hd : Vals dvs ds) (hx : Passes CX X E)
    (ha : PA X (e :: es) t) (hdb : (x == ("__debug__" : Str)) = false := by decide) (he : starEach (e :: es) X.env = (false, eval e X.env) :: starEach es X.env := by rfl) (hpl : (backTo pos (starEach es X.env)).any (·.1) = false := by rfl) :
    PE X (.Call (.Name x p) (e :: es) [] pos) (tCall sp dvs E t) := by
  intro pins s σ H Q I h
  refine wpAny_Call_Name_kw (ld_glob I hg hm ?_ hdb)
  refine PySem.W.callWith_K (h₀ := X.base) I.ok.mod.kin hk (thn (ha pos pins s σ H _ I h) fun us s1 ⟨vs, H1, I1, r, q⟩ => ⟨I1.kIn, ?_⟩) he hpl
  exact run_fn F hr hb hd hx I1 r q
theorem pe_call0 (F : FnOk X.prog X.w X.K X.mg X.base CX k f fd ps sp) (hr : Room k X.A) (hg : Gl X x) (hm : X.mg x = some (.ref f)) (hk : PySem.W.keepIn X.K (.ref f) = true) (hb : Binds X.K fd ps ds) (hd : Vals dvs ds) (hx : Passes CX X E)
    (hdb : (x == ("__debug__" : Str)) = false := by decide) : PE X (.Call (.Name x p) [] [] pos) (tCall sp dvs E tNil) := by
  intro pins s σ H Q I h
  refine wpAny_Call_Name_kw (ld_glob I hg hm ?_ hdb)
  exact PySem.W.callWith_K0 I.kIn hk (run_fn (us := []) F hr hb hd hx I .nil h)
/-- o.m(e, ..) -/
theorem pe_meth {pl : Sem Bool} (he : PE X o ta) (c : Cls X.K C) (hm : Meth X.K C m f) (F : FnOk X.prog X.w X.K X.mg X.base CX k f fd ps sp) (hr : Room k X.A) (hb : Binds X.K fd ps ds) (hd : Vals dvs ds) (hx : Passes CX X E) (ha : PA X (e :: es) t)
    (hst : starEach (e :: es) X.env = (false, eval e X.env) :: starEach es X.env := by rfl) (hpl : (backTo pos (starEach es X.env)).any (·.1) = false := by rfl)
    (ht : eval (.Call (.Attribute o m apos) (e :: es) [] pos) X.env = (do
      let ov ← eval o X.env
      standAt apos.atName
      let (f, first) ← holding [ov] (getMethod ov m pl)
      callWith pos f first (backTo pos (starEach (e :: es) X.env)) (backToKw pos (keywordEach [] X.env))) := by rfl) :
    PE X (.Call (.Attribute o m apos) (e :: es) [] pos) (tMeth C m sp dvs E ta t) := by
  intro pins s σ H Q I h
  refine PySem.W.methodCall_KW (pl := pl) (thn (he pins s σ H _ I h) fun u s1 ⟨x, H1, I1, rx, a, dx, fs, ex, ea, l, q⟩ => ?_) ht
  subst ex
  obtain rfl : u = Value.ref a := rx
  refine getmeth_ok I1 ea c hm l ?_
  refine PySem.W.callWith_K (first := [.ref a]) (h₀ := X.base) I.ok.mod.kin hm.kp (thn (ha pos pins s1 σ H1 _ I1 q) fun us s2 ⟨vs, H2, I2, r, q2⟩ => ⟨I2.kIn, ?_⟩) hst hpl
  exact run_fn (us := .ref a :: us) (vs := .ref a :: vs) F hr hb hd hx I2 (.cons rfl r) q2
/-- o.m() -/
theorem pe_meth0 {pl : Sem Bool} (he : PE X o ta) (c : Cls X.K C) (hm : Meth X.K C m f) (F : FnOk X.prog X.w X.K X.mg X.base CX k f fd ps sp) (hr : Room k X.A) (hb : Binds X.K fd ps ds) (hd : Vals dvs ds) (hx : Passes CX X E)
    (ht : eval (.Call (.Attribute o m apos) [] [] pos) X.env = (do
      let ov ← eval o X.env
      standAt apos.atName
      let (f, first) ← holding [ov] (getMethod ov m pl)
      callWith pos f first (backTo pos (starEach [] X.env)) (backToKw pos (keywordEach [] X.env))) := by rfl) :
    PE X (.Call (.Attribute o m apos) [] [] pos) (tMeth C m sp dvs E ta tNil) := by
  intro pins s σ H Q I h
  refine PySem.W.methodCall_KW (pl := pl) (thn (he pins s σ H _ I h) fun u s1 ⟨x, H1, I1, rx, a, dx, fs, ex, ea, l, q⟩ => ?_) ht
  subst ex
  obtain rfl : u = Value.ref a := rx
  refine getmeth_ok I1 ea c hm l ?_
  exact PySem.W.callWith_K0 (first := [.ref a]) I1.kIn hm.kp (run_fn (us := [.ref a]) (vs := [.ref a]) F hr hb hd hx I1 (.cons rfl .nil) q)
/-- what a class must have to be made -/
structure Mk (K : PySem.W.Frag) (C f : Addr) : Prop where
  makes : PySem.W.makesIn K C = true
  init : PySem.W.findIn K (.ref C) "__init__" = some (some (.ref f))
  fn : PySem.W.isFn K (.ref f) = true
  kp : PySem.W.keepIn K (.ref C) = true
theorem run_make {pins : List (Addr × Obj)} {σ : St} {H : Hp} {s : Shared} {Q : VK} {us : List Value} {vs : List V} (M : Mk X.K C f) (F : FnOk X.prog X.w X.K X.mg X.base CX k f fd ps sp) (hr : Room (k + 1) X.A) (hb : Binds X.K fd ps ds) (hd : Vals dvs ds)
    (hx : Passes CX X E) (I : Inv X pins σ H s) (r : Vals vs us)
    (h : ∀ x dx, H x = none → H dx = none → dx ≠ x → sp (.ref x :: (vs ++ dvs)) (upd (upd H dx (.own x)) x (.ins C dx [])) (fun v H2 => v = .non ∧ Q (.ref x) H2) E) :
    wpAny (model X.prog X.w) X.A (call (.ref C) us) (EP X pins σ Q) X.xe s := by
  have hq := h (s.heap.objs.size + 1) s.heap.objs.size (I.hok.fresh (Nat.le_succ _)) (I.hok.fresh (Nat.le_refl _)) (Nat.ne_of_lt (Nat.lt_succ_self _))
  have I2 := Inv.made (C := C) I
  have r2 : Vals (V.ref (s.heap.objs.size + 1) :: (vs ++ dvs)) (Value.ref (s.heap.objs.size + 1) :: (us ++ ds)) := .cons rfl (r.append hd)
  have hl : (Value.ref (s.heap.objs.size + 1) :: us ++ ds).length = ps.length := by
    have e := r2.length
    rw [F.len _ _ _ _ hq] at e
    exact e.symm
  refine wpAny_call (make_map (f := f) I.kIn M.makes M.init (beq_iff_eq.mp M.fn) (codeAny_mono (F.run _ X.stack _ _ ⟨Value.ref (s.heap.objs.size + 1) :: us, []⟩ (Value.ref (s.heap.objs.size + 1) :: (us ++ ds)) _ _ E (hr.make C us [])
    (I2.env0.make C us []) (hb _ (Value.ref (s.heap.objs.size + 1) :: us) I2.kIn hl) r2 hq) fun r s' hq' => ?_))
  cases r with
  | error e => exact hx pins σ _ _ e s' I2 hq'
  | ok fl =>
    cases fl with
    | ret u =>
      obtain ⟨v, H', I3, rv, ev, q3⟩ := I2.after hq'
      subst ev
      exact ⟨rv, ⟨V.ref (s.heap.objs.size + 1), H', I3, rfl, q3⟩⟩
    | next => exact False.elim hq'
    | brk => exact False.elim hq'
    | cont => exact False.elim hq'
theorem pe_make (M : Mk X.K C f) (F : FnOk X.prog X.w X.K X.mg X.base CX k f fd ps sp) (hr : Room (k + 1) X.A) (hg : Gl X x) (hm : X.mg x = some (.ref C)) (hb : Binds X.K fd ps ds) (hd : Vals dvs ds) (hx : Passes CX X E)
    (ha : PA X (e :: es) t) (hdb : (x == ("__debug__" : Str)) = false := by decide) (he : starEach (e :: es) X.env = (false, eval e X.env) :: starEach es X.env := by rfl) (hpl : (backTo pos (starEach es X.env)).any (·.1) = false := by rfl) :
    PE X (.Call (.Name x p) (e :: es) [] pos) (tMake C sp dvs E t) := by
  intro pins s σ H Q I h
  refine wpAny_Call_Name_kw (ld_glob I hg hm ?_ hdb)
  refine PySem.W.callWith_K (h₀ := X.base) I.ok.mod.kin M.kp (thn (ha pos pins s σ H _ I h) fun us s1 ⟨vs, H1, I1, r, q⟩ => ⟨I1.kIn, ?_⟩) he hpl
  exact run_make M F hr hb hd hx I1 r q
theorem pe_make0 (M : Mk X.K C f) (F : FnOk X.prog X.w X.K X.mg X.base CX k f fd ps sp) (hr : Room (k + 1) X.A) (hg : Gl X x) (hm : X.mg x = some (.ref C)) (hb : Binds X.K fd ps ds) (hd : Vals dvs ds) (hx : Passes CX X E)
    (hdb : (x == ("__debug__" : Str)) = false := by decide) : PE X (.Call (.Name x p) [] [] pos) (tMake C sp dvs E tNil) := by
  intro pins s σ H Q I h
  refine wpAny_Call_Name_kw (ld_glob I hg hm ?_ hdb)
  exact PySem.W.callWith_K0 I.kIn M.kp (run_make (us := []) M F hr hb hd hx I .nil h)
end
/-! ### keywords -/
/-- the values of the keywords, from the left -/
def PK (X : Cx) (kws : List Keyword) (t : TA) : Prop :=
  ∀ (pos : Pos) (pins : List (Addr × Obj)) (s : Shared) (σ : St) (H : Hp) (Q : List V → Hp → Prop), Inv X pins σ H s → t σ H Q → wpAny (model X.prog X.w) X.A (evalAll ((backToKw pos (keywordEach kws X.env)).map (·.2))) (AP X pins σ Q) X.xe s
section
variable {X : Cx} {CX : CXT} {k : Nat} {f C : Addr} {fd : FuncData} {ps ks : List Str} {sp : Sp} {E : XK} {x m : Str} {p pos apos kpos : Pos} {e o : Expr} {es : List Expr} {kws : List Keyword} {te ta : TE} {t tk : TA} {nm : Option Str}
/-- how a call with keywords binds: g puts the positional values us and the keywords' values ws (names ks) in the parameters' order, defaults among them -/
structure KBinds (K : PySem.W.Frag) (fd : FuncData) (ps ks : List Str) (g : List Value → List Value → List Value) (gV : List V → List V → List V) : Prop where
  to : ∀ (s : Shared) (us ws : List Value), K.In s.heap → (g us ws).length = ps.length → BindsTo s fd ⟨us, ks.zip ws⟩ (ps.zip (g us ws))
  rel : ∀ {vs : List V} {us : List Value} {zs : List V} {ws : List Value}, Vals vs us → Vals zs ws → Vals (gV vs zs) (g us ws)
def tCallK (sp : Sp) (gV : List V → List V → List V) (E : XK) (t tk : TA) : TE := fun σ H Q => t σ H fun vs H1 => tk σ H1 fun zs H2 => sp (gV vs zs) H2 Q E
variable {g : List Value → List Value → List Value} {gV : List V → List V → List V}
end
/-! ### a def's body keeps its promise -/
/-- names: the parameters first -/
structure FnScope (N P : List Str) (sc : Scope) : Prop where
  kind : sc.kind = .function
  co : sc.isCoroutine = false
  gen : sc.isGenerator = false
  nd : N.Nodup
  pre : N.take P.length = P
  par : ∀ x ∈ P, sc.names.lookup x = some .local ∨ sc.names.lookup x = some .cell
  nofree : ∀ y ∈ sc.names, y.2 ≠ .free
theorem bindL_out {kindOf : Str → Option NameKind} {x : Str} : ∀ {binds : List (Str × Value)} {m : Str → Option Value}, (∀ v, (x, v) ∉ binds) → bindL kindOf binds m x = m x
  | [], _, _ => rfl
  | (n, v) :: r, m, h => by
    unfold bindL
    rw [bindL_out fun w hw => h w (List.mem_cons_of_mem _ hw)]
    split
    · have : x ≠ n := by rintro rfl; exact h v List.mem_cons_self
      simp [this]
    · rfl
theorem bindC_out {kindOf : Str → Option NameKind} {x : Str} : ∀ {binds : List (Str × Value)} {m : Str → Option Value}, (∀ v, (x, v) ∉ binds) → bindC kindOf binds m x = m x
  | [], _, _ => rfl
  | (n, v) :: r, m, h => by
    unfold bindC
    rw [bindC_out fun w hw => h w (List.mem_cons_of_mem _ hw)]
    split
    · rfl
    · have : x ≠ n := by rintro rfl; exact h v List.mem_cons_self
      simp [this]
theorem bindL_get {kindOf : Str → Option NameKind} {x : Str} {v : Value} : ∀ {P : List Str} {vs : List Value} {i : Nat} {m : Str → Option Value}, P.Nodup → P[i]? = some x → vs[i]? = some v → kindOf x = some .local →
    bindL kindOf (P.zip vs) m x = some v
  | [], _, _, _, _, h, _, _ => by simp at h
  | _ :: _, [], _, _, _, _, h, _ => by simp at h
  | p :: P, w :: vs, 0, m, nd, h1, h2, hk => by
    simp at h1 h2; subst h1; subst h2
    show bindL kindOf ((p, w) :: P.zip vs) m p = _
    unfold bindL
    rw [bindL_out fun v hv => (List.nodup_cons.mp nd).1 (List.of_mem_zip hv).1, if_pos hk]
    simp
  | p :: P, w :: vs, i + 1, m, nd, h1, h2, hk => by
    show bindL kindOf ((p, w) :: P.zip vs) m x = _
    unfold bindL
    exact bindL_get (i := i) (List.nodup_cons.mp nd).2 (by simpa using h1) (by simpa using h2) hk
theorem bindC_get {kindOf : Str → Option NameKind} {x : Str} {v : Value} : ∀ {P : List Str} {vs : List Value} {i : Nat} {m : Str → Option Value}, P.Nodup → P[i]? = some x → vs[i]? = some v → kindOf x ≠ some .local →
    bindC kindOf (P.zip vs) m x = some v
  | [], _, _, _, _, h, _, _ => by simp at h
  | _ :: _, [], _, _, _, _, h, _ => by simp at h
  | p :: P, w :: vs, 0, m, nd, h1, h2, hk => by
    simp at h1 h2; subst h1; subst h2
    show bindC kindOf ((p, w) :: P.zip vs) m p = _
    unfold bindC
    rw [bindC_out fun v hv => (List.nodup_cons.mp nd).1 (List.of_mem_zip hv).1, if_neg hk]
    simp
  | p :: P, w :: vs, i + 1, m, nd, h1, h2, hk => by
    show bindC kindOf ((p, w) :: P.zip vs) m x = _
    unfold bindC
    exact bindC_get (i := i) (List.nodup_cons.mp nd).2 (by simpa using h1) (by simpa using h2) hk
/-- the names' values at the entry -/
def start (N : List Str) (vs : List V) : St := vs.map some ++ List.replicate (N.length - vs.length) none
/-- the context of a def's body, at its entry; an exception leaves the frame, then lies as CX says -/
def cxOf (CX : CXT) (P : Program) (w : World) (K : PySem.W.Frag) (mg : Str → Option Value) (base : Heap) (N : List Str) (qual : Str) (scope : Scope) (f : Addr) (cd : Value) (A : Around) (outer : List Env) (s : Shared) (H : Hp) (E : XK) : Cx where
  prog := P
  w := w
  K := K
  mg := mg
  base := base
  A := A.deeper (envOfC qual scope s.heap.objs.size f cd)
  N := N
  s_0 := s
  H_0 := H
  env := envOfC qual scope s.heap.objs.size f cd
  outer := outer
  stack := envOfC qual scope s.heap.objs.size f cd :: outer
  ex := []
  calm := true
  fn := fun _ => true
  pn := []
  xe := fun e s' => wpAny (model P w) (A.deeper (envOfC qual scope s.heap.objs.size f cd)) (leaving (envOfC qual scope s.heap.objs.size f cd) e) (fun _ s'' => CX outer H s E e s'') (fun e' s'' => CX outer H s E e' s'') s'
theorem cell_has {sc : Scope} {n : Nat} {x : Str} (h : sc.names.lookup x = some .cell) : ∃ c, (cellsFrom n sc.names []).lookup x = some c := by
  have q := PySem.W.cellsFrom_some sc.names n [] (.inl h)
  exact Option.isSome_iff_exists.mp q
theorem inv_start {CX : CXT} {P : Program} {w : World} {K : PySem.W.Frag} {mg : Str → Option Value} {base : Heap} {N ps : List Str} {qual : Str} {scope : Scope} {f : Addr} {cd : Value} {A : Around} {outer : List Env} {s s1 : Shared} {H : Hp} {E : XK} {us : List Value} {vs : List V}
    (S : FnScope N ps scope) (hd : A.handled = none) (e0 : Env0 P w K mg base A outer s H) (hl : vs.length = ps.length) (r : Vals vs us)
    (x : InCallC s s.heap.objs.size (bindL (envOfC qual scope s.heap.objs.size f cd).kindOf (ps.zip us) fun _ => none) (cellsFrom (s.heap.objs.size + 1) scope.names []) (bindC (envOfC qual scope s.heap.objs.size f cd).kindOf (ps.zip us) fun _ => none) s1) :
    Inv (cxOf CX P w K mg base N qual scope f cd A outer s H E) [] (start N vs) H s1 := by
  have hpl : ps.length ≤ N.length := by have := congrArg List.length S.pre; rw [List.length_take] at this; omega
  obtain ⟨h1, tk, rfl, hk⟩ := x.done
  have noA : ∀ b : Addr, b ∉ (cxOf CX P w K mg base N qual scope f cd A outer s H E).ex := fun b z => absurd (show b ∈ ([] : List Addr) from z) (by simp)
  refine ⟨⟨e0.mod, S.kind, rfl, rfl, Nat.le_refl _, fun y z c h1 h2 => ?_, fun y hy => ?_, fun y c _ h => ?_, fun _ => hd, Around.frames_deeper e0.frames, .inr ⟨rfl, rfl⟩, fun b z => absurd z (noA b), e0.bs, e0.bsz, fun b _ _ => noA b, fun b z => absurd z (noA b), e0.funs, e0.frf⟩,
    rfl, e0.bare, Un.kept hk, ⟨_, x.toInCall.ns, fun i y v h1 h2 h3 => ?_⟩, fun y c h => ⟨_, x.cell y c h⟩, e0.hok.fresh (Nat.le_refl _), fun y c h => ?_, fun p hp => absurd (show p ∈ ([] : List (Addr × Obj)) from hp) (by simp), e0.hok.kept hk, ?_⟩
  · exact name_of_addr x.apart (PySem.mem_of_lookup h1) (PySem.mem_of_lookup h2)
  · have hy : scope.names.lookup y = some .cell ∨ scope.names.lookup y = some .free := hy
    rcases hy with hy | hy
    · exact cell_has hy
    · exact absurd rfl (S.nofree _ (PySem.mem_of_lookup hy))
  · exact Nat.le_of_lt (x.above y c (PySem.mem_of_lookup h))
  · have hi : i < vs.length := by
      unfold start at h2
      by_cases hi : i < vs.length
      · exact hi
      · rw [List.getElem?_append_right (by simpa using hi)] at h2
        rw [List.getElem?_replicate] at h2
        split at h2 <;> cases h2
    have ha : vs[i]? = some v := by
      unfold start at h2
      rw [List.getElem?_append_left (by simpa using hi), List.getElem?_map] at h2
      cases e : vs[i]? with
      | none => rw [e] at h2; cases h2
      | some a => rw [e] at h2; cases h2; rfl
    obtain ⟨u, hu, rv⟩ := r.get ha
    have hp : ps[i]? = some y := by
      rw [← S.pre, List.getElem?_take_of_lt (by omega)]; exact h1
    have ndP : ps.Nodup := by rw [← S.pre]; exact S.nd.sublist (List.take_sublist _ _)
    refine ⟨u, rv, ?_⟩
    rcases S.par y (List.mem_of_getElem? hp) with k | k
    · exact .inl ⟨k, bindL_get ndP hp hu k⟩
    · obtain ⟨c, e⟩ := cell_has (n := s.heap.objs.size + 1) k
      refine .inr ⟨.inl k, c, e, ?_⟩
      have q := x.cell y c e
      rw [bindC_get ndP hp hu (by show scope.names.lookup y ≠ _; rw [k]; decide)] at q
      exact q
  · exact e0.hok.fresh (Nat.le_of_lt (x.above y c (PySem.mem_of_lookup h)))
  · unfold start
    show _ = N.length
    rw [List.length_append, List.length_map, List.length_replicate]
    omega
/-- THE RULE: a def (or a method) of the text, by its body. The body's reading t is chosen for each entry; it is run at the parameters' values -/
theorem fn_of {CX : CXT} {P : Program} {w : World} {K : PySem.W.Frag} {mg : Str → Option Value} {base : Heap} {k : Nat} {f : Addr} {name qual : Str} {params : Arguments} {body : List Stmt} {scope : Scope} {dV kV doc pm cdv ct oc : Value} {an od : Option Addr}
    {osl : Array (Option Value)} {N ps : List Str} {sp : Sp} (lk : K.lookup f = some ⟨oc, od, .func (PySem.W.fnOf name qual params body scope dV kV doc pm an cdv ct), osl⟩) (hcd : PySem.W.codeIn K cdv qual = true) (S : FnScope N ps scope)
    (len : ∀ vs H Q E, sp vs H Q E → vs.length = ps.length)
    (hbody : ∀ (A : Around) (outer : List Env) (s : Shared) (H : Hp) (vs : List V) (Q : VK) (E : XK), Room k (A.deeper (envOfC qual scope s.heap.objs.size f cdv)) → sp vs H Q E →
      ∃ t, PSs (cxOf CX P w K mg base N qual scope f cdv A outer s H E) body t ∧ t { nx := fun _ H' => Q .non H', rt := Q } (start N vs) H) :
    FnOk P w K mg base CX (k + 1) f (PySem.W.fnOf name qual params body scope dV kV doc pm an cdv ct) ps sp := by
  refine ⟨len, fun A outer s H args us vs Q E hr e0 hb r hsp => ?_⟩
  have hl := len _ _ _ _ hsp
  have KX : K.In s.heap := e0.mod.kin.keeps fun b o e => (e0.bs b o e).1
  have lim : s.heap.NoLimit := e0.mod.nolimit.keeps fun b o e => (e0.bs b o e).1
  have hkind : ∀ y ∈ ps.zip us, scope.names.lookup y.1 = some .local ∨ (scope.names.lookup y.1 = some .cell ∧ ((cellsFrom (s.heap.objs.size + 1) scope.names []).lookup y.1).isSome = true) := fun ⟨n, v⟩ hy => by
    rcases S.par n (List.of_mem_zip hy).1 with q | q
    · exact .inl q
    · exact .inr ⟨q, PySem.W.cellsFrom_some _ _ _ (.inl q)⟩
  refine codeAny_call_function hr.depth (KX _ _ lk) rfl S.co S.gen rfl (PySem.W.codeRec_of KX hcd) (hb _ _ _ _ ?_)
  refine wpAny_newFunctionEnv_cells S.kind hkind fun env he s1 x => ?_
  subst he
  refine ⟨lim.keeps x.toInCall.keep, codeAny_func ?_⟩
  obtain ⟨t, ht, hq⟩ := hbody A outer s H vs Q E (hr.deeper _) hsp
  have I : Inv (cxOf CX P w K mg base N qual scope f cdv A outer s H E) [] (start N vs) H s1 := inv_start S hr.hd e0 hl r x
  refine wpAny_mono (ht [] s1 (start N vs) H _ I hq) (fun fl s' hs => ?_) fun e s' hs => hs
  have fin : ∀ {σ' : St} {H' : Hp} {v : V} {u : Value}, Inv (cxOf CX P w K mg base N qual scope f cdv A outer s H E) [] σ' H' s' → RelV v u → Q v H' → CE outer P w H s Q u s' :=
    fun {σ' H' v u} J rv q => ⟨v, H', J.os, J.bare, J.base, J.hok, rv, q⟩
  cases fl with
  | ret u =>
    obtain ⟨v, σ', H', J, rv, q⟩ := hs
    exact fin J rv q
  | next =>
    obtain ⟨σ', H', J, q⟩ := hs
    exact fin (v := V.non) (u := Value.none) J rfl q
  | brk =>
    obtain ⟨_, _, _, q⟩ := hs
    exact False.elim q
  | cont =>
    obtain ⟨_, _, _, q⟩ := hs
    exact False.elim q
end L2
namespace L2
open PySem PySem.Spec PyProof.Rows
section
variable {X : Cx} {x : Str} {p pos : Pos} {e : Expr} {es : List Expr} {t : TA} {id T : String} {r : List V → Hp → VK → Prop}
def tCB (r : List V → Hp → VK → Prop) (t : TA) : TE := fun σ H Q => t σ H fun vs H1 => r vs H1 Q
/-- f(e, ..), f a built-in function -/
theorem pe_callB (hc : CallR X (.builtin id) r) (hg : Gl X x) (hm : X.mg x = none) (hv : bootBuiltins x = some (.builtin id)) (ha : PA X (e :: es) t) (hn : x ≠ "__name__" := by decide) (hdb : (x == ("__debug__" : Str)) = false := by decide)
    (he : starEach (e :: es) X.env = (false, eval e X.env) :: starEach es X.env := by rfl) (hpl : (backTo pos (starEach es X.env)).any (·.1) = false := by rfl) : PE X (.Call (.Name x p) (e :: es) [] pos) (tCB r t) := by
  intro pins s σ H Q I h
  refine wpAny_Call_Name_kw (ld_blt I hg hm hv ?_ hn hdb)
  exact PyProof.Rows.callWith_builtin1 (thn (ha pos pins s σ H _ I h) fun us s1 ⟨vs, H1, I1, r1, q1⟩ => hc pins s1 σ H1 vs us Q I1 r1 q1) he hpl
/-- T(e, ..), T a built-in type -/
theorem pe_callTy (hc : CallR X (.type T) r) (hg : Gl X x) (hm : X.mg x = none) (hv : bootBuiltins x = some (.type T)) (ha : PA X (e :: es) t) (hn : x ≠ "__name__" := by decide) (hdb : (x == ("__debug__" : Str)) = false := by decide)
    (he : starEach (e :: es) X.env = (false, eval e X.env) :: starEach es X.env := by rfl) (hpl : (backTo pos (starEach es X.env)).any (·.1) = false := by rfl) : PE X (.Call (.Name x p) (e :: es) [] pos) (tCB r t) := by
  intro pins s σ H Q I h
  refine wpAny_Call_Name_kw (ld_blt I hg hm hv ?_ hn hdb)
  exact PyProof.Rows.callWith_type1 (thn (ha pos pins s σ H _ I h) fun us s1 ⟨vs, H1, I1, r1, q1⟩ => hc pins s1 σ H1 vs us Q I1 r1 q1) he hpl
end
end L2
namespace HT
open PySem PyProof.Rows
/-- t < u of tuples of ints -/
def lexLt : List Int → List Int → Bool
  | [], [] => false
  | [], _ :: _ => true
  | _ :: _, [] => false
  | x :: xs, y :: ys => if x = y then lexLt xs ys else decide (x < y)
section
open PySem.SeqAt
open PySem.AutoSeq1 (wpAny_loadPart')
open PySem.MeetsSeq PySem.MeetsSeq2 PySem.MeetsSeq3
end
section
variable {prog : Program} {w : World} {A : Around} {E : Value → Shared → Prop} {s : Shared}
/-! ### t[a:b], not the whole -/
/-- a slice's bound as a place among n (d where it is left out) -/
def sIx (n d : Nat) : Option Int → Nat
  | none => d
  | some v => if v < 0 then (v + (n : Int)).toNat else min v.toNat n
theorem sIx_none (n d : Nat) : sIx n d none = d := rfl
theorem sIx_nat (n d k : Nat) : sIx n d (some (k : Int)) = min k n := by
  show (if (k : Int) < 0 then ((k : Int) + (n : Int)).toNat else min (k : Int).toNat n) = min k n
  rw [if_neg (by omega), Int.toNat_natCast]
end
end HT
namespace L2
open PySem PySem.Spec PyProof.Rows
/-! ### the parts of a slice -/
abbrev TO := St → Hp → (Option Int → Hp → Prop) → Prop
/-- a slice's part (left out, or an int) -/
def PO (X : Cx) (e : Option Expr) (t : TO) : Prop :=
  ∀ (pins : List (Addr × Obj)) (s : Shared) (σ : St) (H : Hp) (Q : Option Int → Hp → Prop), Inv X pins σ H s → t σ H Q →
    wpAny (model X.prog X.w) X.A (evalPart e X.env) (fun u s' => ∃ o H', Inv X pins σ H' s' ∧ IsPart u o ∧ Q o H') X.xe s
def tNoPart : TO := fun _ H Q => Q none H
def tPart (t : TE) : TO := fun σ H Q => t σ H fun x H1 => ∃ i, x = .int i ∧ Q (some i) H1
section
variable {X : Cx} {e : Expr} {te : TE} {lo hi : Option Expr} {tl th : TO} {pos p2 : Pos}
theorem po_none : PO X none tNoPart := by
  intro pins s σ H Q I h
  rw [evalPart_none]
  exact wpAny_pure ⟨none, H, I, .none, h⟩
theorem po_some (h : PE X e te) : PO X (some e) (tPart te) := by
  intro pins s σ H Q I hw
  rw [evalPart_some]
  refine thn (h pins s σ H _ I hw) fun u s1 ⟨x, H1, I1, r1, q1⟩ => ?_
  obtain ⟨i, rfl, q⟩ := q1
  obtain ⟨t, rfl⟩ := r1
  exact ⟨some i, H1, I1, .int i t, q⟩
/-- what a slice of a value is, by values: the slice object stands at sl -/
def SlR (X : Cx) (r : V → Option Int → Option Int → Hp → VK → Prop) : Prop :=
  ∀ (pins : List (Addr × Obj)) (s : Shared) (σ : St) (H : Hp) (x : V) (v vl vu : Value) (lo hi : Option Int) (sl : Addr) (Q : VK), Inv X pins σ H s → RelV x v → s.heap.IsSliceOf sl vl vu .none → IsPart vl lo → IsPart vu hi → r x lo hi H Q →
    ∃ T id, typeLookup (.type T) "__getitem__" = pure (some (.builtin id)) ∧ s.TypeIs v T ∧ wpAny (model X.prog X.w) X.A (getItem v (.ref sl)) (EP X pins σ Q) X.xe s
theorem SlR.or {r r' : V → Option Int → Option Int → Hp → VK → Prop} (h : SlR X r) (h' : SlR X r') : SlR X (fun x lo hi H Q => r x lo hi H Q ∨ r' x lo hi H Q) := by
  intro pins s σ H x v vl vu lo hi sl Q I rx hs pl pu q
  rcases q with q | q
  · exact h pins s σ H x v vl vu lo hi sl Q I rx hs pl pu q
  · exact h' pins s σ H x v vl vu lo hi sl Q I rx hs pl pu q
def tSl (r : V → Option Int → Option Int → Hp → VK → Prop) (te : TE) (tl th : TO) : TE := fun σ H Q => te σ H fun x H1 => tl σ H1 fun l H2 => th σ H2 fun u H3 => r x l u H3 Q
/-- a[lo:hi], any a -/
theorem pe_slice {r : V → Option Int → Option Int → Hp → VK → Prop} (hr : SlR X r) (he : PE X e te) (hl : PO X lo tl) (hu : PO X hi th) : PE X (.Subscript e (.Slice lo hi none p2) pos) (tSl r te tl th) := by
  intro pins s σ H Q I h
  refine Subscript_ (thn (he pins s σ H _ I h) fun v s1 ⟨x, H1, I1, r1, q1⟩ => ?_)
  refine wpAny_Slice (thn (hl pins s1 σ H1 _ I1 q1) fun vl s2 ⟨l, H2, I2, pl, q2⟩ => thn (hu pins s2 σ H2 _ I2 q2) fun vu s3 ⟨u, H3, I3, pu, q3⟩ => ?_)
  rw [evalPart_none]
  refine wpAny_pure ?_
  have I4 : Inv X pins σ H3 { s3 with heap := s3.heap.push { cls := .type "slice", data := .fields #[vl, vu, .none] } } := I3.kept (t' := s3.toks) fun b ob q => Heap.get?_push_of_some _ q
  obtain ⟨T, id, hT, ht, hg⟩ := hr pins { s3 with heap := s3.heap.push { cls := .type "slice", data := .fields #[vl, vu, .none] } } σ H3 x v vl vu l u s3.heap.objs.size Q I4 r1 (Heap.IsSliceOf.new ..) pl pu q3
  show wpAny (model X.prog X.w) X.A (subscriptTail e (.Slice lo hi none p2) v (.ref s3.heap.objs.size)) (EP X pins σ Q) X.xe { s3 with heap := s3.heap.push { cls := .type "slice", data := .fields #[vl, vu, .none] } }
  exact tail_any (ops := [.ref s3.heap.objs.size, v]) ht hT hg (by with_unfolding_all rfl)
/-- the items of xs[lo:hi] -/
def cutV (xs : List V) (lo hi : Option Int) : List V := (xs.drop (HT.sIx xs.length 0 lo)).take (HT.sIx xs.length xs.length hi - HT.sIx xs.length 0 lo)
theorem cutV_length (xs : List V) (lo hi : Option Int) : (cutV xs lo hi).length ≤ xs.length := by
  unfold cutV
  rw [List.length_take, List.length_drop]
  omega
/-- t[lo:hi], not the whole of it (the whole would be t itself) -/
def rSlT (K : PySem.W.Frag) : V → Option Int → Option Int → Hp → VK → Prop := fun x lo hi H Q => ∃ a xs, x = .ref a ∧ SqT K H a xs ∧
  ¬ (HT.sIx xs.length 0 lo = 0 ∧ HT.sIx xs.length xs.length hi = xs.length) ∧ ∀ p, H p = none → Q (.ref p) (upd H p (.tup (cutV xs lo hi)))
/-! ### t < u, t + u -/
def rLtT (K : PySem.W.Frag) : R2 := fun x y H Q => ∃ a b ns ms, x = .ref a ∧ y = .ref b ∧ SqT K H a (ns.map V.int) ∧ SqT K H b (ms.map V.int) ∧ Q (.bl (HT.lexLt ns ms)) H
/-- t + u, t not empty: u empty gives t itself -/
def rCatT (K : PySem.W.Frag) : R2 := fun x y H Q => ∃ a b xs ys, x = .ref a ∧ y = .ref b ∧ SqT K H a xs ∧ SqT K H b ys ∧ xs ≠ [] ∧ xs.length + ys.length ≤ sizeLine ∧
  (ys = [] → Q (.ref a) H) ∧ (ys ≠ [] → ∀ p, H p = none → Q (.ref p) (upd H p (.tup (xs ++ ys))))
end
end L2
namespace L2
open PySem PySem.Spec PyProof.Rows
/-! ### places -/
/-- the place that an index of any sign means -/
def ixN (n : Nat) (i : Int) : Option Nat := if 0 ≤ i then (if i < n then some i.toNat else none) else if -(n : Int) ≤ i then some (i + n).toNat else none
def atI {α : Type} (xs : List α) (i : Int) : Option α := (ixN xs.length i).bind fun j => xs[j]?
theorem ixN_seq {n : Nat} {i : Int} {j : Nat} (h : ixN n i = some j) : seqIndex? i n = some j ∧ j < n ∧ -(n : Int) ≤ i ∧ i < n := by
  unfold ixN at h
  by_cases h0 : 0 ≤ i
  · rw [if_pos h0] at h
    by_cases h1 : i < n
    · rw [if_pos h1] at h
      have e : i.toNat = j := Option.some.inj h
      exact ⟨by rw [seqIndex_of h0 h1, e], by omega, by omega, h1⟩
    · rw [if_neg h1] at h; cases h
  · rw [if_neg h0] at h
    by_cases h1 : -(n : Int) ≤ i
    · rw [if_pos h1] at h
      have e : (i + n).toNat = j := Option.some.inj h
      exact ⟨by rw [seqIndex_neg (by omega) h1, e], by omega, h1, by omega⟩
    · rw [if_neg h1] at h; cases h
theorem atI_get {α : Type} {xs : List α} {i : Int} {v : α} (h : atI xs i = some v) : ∃ j, seqIndex? i xs.length = some j ∧ xs[j]? = some v ∧ j < xs.length ∧ -(xs.length : Int) ≤ i ∧ i < xs.length := by
  unfold atI at h
  cases e : ixN xs.length i with
  | none => rw [e] at h; cases h
  | some j =>
    rw [e] at h
    obtain ⟨h1, h2, h3, h4⟩ := ixN_seq e
    exact ⟨j, h1, h, h2, h3, h4⟩
theorem atI_nat {α : Type} {xs : List α} {j : Nat} {v : α} (h : xs[j]? = some v) : atI xs (j : Int) = some v := by
  have hj : j < xs.length := (List.getElem?_eq_some_iff.mp h).1
  have e : ixN xs.length (j : Int) = some j := by
    unfold ixN
    rw [if_pos (by omega), if_pos (by omega)]; simp
  unfold atI; rw [e]; exact h
theorem atI_last {α : Type} (xs : List α) (v : α) : atI (xs ++ [v]) (-1) = some v := by
  have hl : (xs ++ [v]).length = xs.length + 1 := by simp
  have e : ixN (xs ++ [v]).length (-1) = some xs.length := by
    unfold ixN
    rw [hl, if_neg (by decide), if_pos (by omega)]
    congr 1
    omega
  unfold atI
  rw [e]
  show (xs ++ [v])[xs.length]? = some v
  simp
/-! ### what may be subscripted -/
/-- what stands as an index of a plain subscript -/
def PlainIx (b : Expr) : Prop := ∀ o i, subscripted b false o i = operate [o, i] (getItem o i)
/-- a subscript by values -/
def IxR (X : Cx) (r : R2) : Prop :=
  ∀ (value slice : Expr) (pins : List (Addr × Obj)) (s : Shared) (σ : St) (H : Hp) (x y : V) (v u : Value) (Q : VK), Inv X pins σ H s → RelV x v → RelV y u → r x y H Q →
    subscripted slice false v u = operate [v, u] (getItem v u) → wpAny (model X.prog X.w) X.A (subscriptTail value slice v u) (EP X pins σ Q) X.xe s
/-- a call of a builtin's method by values: the receiver, the arguments -/
def MtR (X : Cx) (id : String) (r : V → List V → Hp → VK → Prop) : Prop :=
  ∀ (pins : List (Addr × Obj)) (s : Shared) (σ : St) (H : Hp) (x : V) (xs : List V) (v : Value) (us : List Value) (Q : VK), Inv X pins σ H s → RelV x v → Vals xs us → r x xs H Q →
    wpAny (model X.prog X.w) X.A (call (.builtin id) (v :: us)) (EP X pins σ Q) X.xe s
section
variable {X : Cx} {a b : Expr} {ta tb : TE} {pos : Pos}
theorem IxR.or {r r' : R2} (h : IxR X r) (h' : IxR X r') : IxR X (fun x y H Q => r x y H Q ∨ r' x y H Q) := by
  intro value slice pins s σ H x y v u Q I rx ry q hs
  rcases q with q | q
  · exact h value slice pins s σ H x y v u Q I rx ry q hs
  · exact h' value slice pins s σ H x y v u Q I rx ry q hs
theorem MtR.or {id : String} {r r' : V → List V → Hp → VK → Prop} (h : MtR X id r) (h' : MtR X id r') : MtR X id (fun x xs H Q => r x xs H Q ∨ r' x xs H Q) := by
  intro pins s σ H x xs v us Q I rx rs q
  rcases q with q | q
  · exact h pins s σ H x xs v us Q I rx rs q
  · exact h' pins s σ H x xs v us Q I rx rs q
/-- a[b] -/
theorem pe_ix {r : R2} (hr : IxR X r) (ha : PE X a ta) (hb : PE X b tb) (hs : PlainIx b) : PE X (.Subscript a b pos) (tOp r ta tb) := by
  intro pins s σ H Q I h
  exact Subscript_ (binT ha hb I h fun v u s2 x y H2 I2 rx ry q => hr a b pins s2 σ H2 x y v u Q I2 rx ry q (hs _ _))
def rIxL (K : PySem.W.Frag) : R2 := fun x y H Q => ∃ p xs i v, x = .ref p ∧ y = .int i ∧ SqL K H p xs ∧ atI xs i = some v ∧ Q v H
def rIxT (K : PySem.W.Frag) : R2 := fun x y H Q => ∃ p xs i v, x = .ref p ∧ y = .int i ∧ SqT K H p xs ∧ atI xs i = some v ∧ Q v H
def rIxS : R2 := fun x y H Q => ∃ z i c, x = .str z ∧ y = .int i ∧ z.length ≤ sizeLine ∧ atI z.cps.toList i = some c ∧ Q (.str ⟨#[c]⟩) H
theorem ix_list : IxR X (rIxL X.K) := by
  intro value slice pins s σ H x y v u Q I rx ry h hs
  obtain ⟨p, xs, i, z, rfl, rfl, hq, he, q⟩ := h
  cases rx
  obtain ⟨t, rfl⟩ := ry
  obtain ⟨its, r, pl, hz⟩ := I.list hq
  obtain ⟨j, h1, h2, h3, h4, h5⟩ := atI_get he
  obtain ⟨w, ew, rw'⟩ := r.get h2
  have hl := r.length
  have hn := line63
  have fin : EP X pins σ Q w s := ⟨z, H, I, rw', q⟩
  by_cases h0 : 0 ≤ i
  · have hj : i.toNat = j := by
      rw [seqIndex_of h0 h5] at h1
      exact Option.some.inj h1
    exact item_listR pl.isList h0 (by omega) (by rw [hj]; simpa using ew) fin hs
  · have hj : (i + (its.toArray.size : Int)).toNat = j := by
      rw [seqIndex_neg (by omega) h4] at h1
      rw [List.size_toArray, ← hl]
      exact Option.some.inj h1
    exact subscriptTail_builtinR (x := w) pl.isList.typeIs slot_list_getitem.lookup
      (wpAny_getItem_list_neg (Q := fun r s' => r = w ∧ EP X pins σ Q r s') pl.isList (by omega) (by rw [List.size_toArray] <;> omega) (by omega) (by rw [hj]; simpa using ew) ⟨rfl, fin⟩) hs
/-- list, tuple or str -/
def rIx (K : PySem.W.Frag) : R2 := fun x y H Q => rIxL K x y H Q ∨ rIxT K x y H Q ∨ rIxS x y H Q
/-! ### xs[i] = v, any sign -/
/-- the list's object behind a store -/
theorem mapSeq_set (its : List Value) (n j : Nat) (u : Value) : Obj.mapSeq (·.setIfInBounds j u) { cls := .type "list", data := .seq its.toArray n } = { cls := .type "list", data := .seq (its.set j u).toArray n } := by
  simp [Obj.mapSeq]
theorem Inv.lst {pins : List (Addr × Obj)} {σ : St} {H : Hp} {s : Shared} {p : Addr} {xs : List V} (I : Inv X pins σ H s) (h : H p = some (.lst xs)) :
    ∃ (its : List Value) (n : Nat), Vals xs its ∧ s.heap.get? p = some { cls := .type "list", data := .seq its.toArray n } ∧ xs.length ≤ sizeLine := by
  obtain ⟨z, its, n, r, e⟩ := I.hok p _ h
  exact ⟨its, n, r, e, z⟩
/-- the list at p is written by an update of its object -/
theorem Inv.lstUpd {pins : List (Addr × Obj)} {σ : St} {H : Hp} {s : Shared} {p : Addr} {xs ys : List V} {its its' : List Value} {n n' : Nat} {f : Obj → Obj} (I : Inv X pins σ H s) (h : H p = some (.lst xs))
    (ho : s.heap.get? p = some { cls := .type "list", data := .seq its.toArray n }) (hf : f { cls := .type "list", data := .seq its.toArray n } = { cls := .type "list", data := .seq its'.toArray n' }) (r : Vals ys its') (hz : ys.length ≤ sizeLine) (t : Nat) :
    Inv X pins σ (upd H p (.lst ys)) { s with heap := s.heap.update p f, toks := t } := by
  have e : (s.heap.update p f).get? p = some { cls := .type "list", data := .seq its'.toArray n' } := by
    rw [Heap.get?_update_self f ho (by rw [hf] <;> rfl), hf]
  refine I.write (x := p) (e := p) (by rw [h]; trivial) (.inl rfl) (fun b u hb q => (Heap.get?_update_other _ _ (Ne.symm hb)).trans q) ⟨_, e⟩ ?_
  exact ⟨hz, its', n', r, e⟩
def rSetL : V → V → V → Hp → (Hp → Prop) → Prop := fun o i v H Q => ∃ p xs k j, o = .ref p ∧ i = .int k ∧ H p = some (.lst xs) ∧ ixN xs.length k = some j ∧ Q (upd H p (.lst (xs.set j v)))
theorem set_list : PSet X rSetL := by
  intro pins s σ H o i v ov iv u Q I ro ri rv h
  obtain ⟨p, xs, k, j, rfl, rfl, hp, hj, q⟩ := h
  cases ro
  obtain ⟨t, rfl⟩ := ri
  obtain ⟨its, n, r, ho, hz⟩ := I.lst hp
  obtain ⟨h1, h2, h3, h4⟩ := ixN_seq hj
  have hl := r.length
  have hn := line63
  have I' : Inv X pins σ (upd H p (.lst (xs.set j v))) { s with heap := s.heap.update p (Obj.mapSeq (·.setIfInBounds j u)) } :=
    I.lstUpd hp ho (mapSeq_set its n j u) (r.set rv j) (by rw [List.length_set]; exact hz) s.toks
  by_cases h0 : 0 ≤ k
  · have hk : k.toNat = j := by
      rw [seqIndex_of h0 h4] at h1
      exact Option.some.inj h1
    exact PySem.W.ki_setAt ho h0 (by omega) (by rw [List.size_toArray, ← hl]; exact h4) (by rw [hk]; exact ⟨_, I', q⟩)
  · have hk : (k + (its.toArray.size : Int)).toNat = j := by
      rw [seqIndex_neg (by omega) h3] at h1
      rw [List.size_toArray, ← hl]
      exact Option.some.inj h1
    exact PySem.W.ki_setBack ho (by omega) (by rw [List.size_toArray, ← hl]; exact h3) (by omega) (by rw [hk]; exact ⟨_, I', q⟩)
/-! ### slices -/
theorem slice_bounds (lo hi : Option Int) (n : Nat) : (sliceBounds lo hi none n).1 = ((HT.sIx n 0 lo : Nat) : Int) ∧ (sliceBounds lo hi none n).2.1 = ((HT.sIx n n hi : Nat) : Int) ∧ (sliceBounds lo hi none n).2.2 = 1 := by
  refine ⟨?_, ?_, rfl⟩
  · cases lo with
    | none => simp [sliceBounds, HT.sIx]
    | some i =>
      simp only [sliceBounds, HT.sIx, Option.getD_none, show (1 : Int) > 0 by decide, if_true]
      by_cases h : i < 0
      · simp only [h, if_true] <;> omega
      · simp only [h, if_false] <;> omega
  · cases hi with
    | none => simp [sliceBounds, HT.sIx]
    | some i =>
      simp only [sliceBounds, HT.sIx, Option.getD_none, show (1 : Int) > 0 by decide, if_true]
      by_cases h : i < 0
      · simp only [h, if_true] <;> omega
      · simp only [h, if_false] <;> omega
theorem slicePick_cut (its : List Value) (lo hi : Option Int) : slicePick its.toArray lo hi none = ((its.drop (HT.sIx its.length 0 lo)).take (HT.sIx its.length its.length hi - HT.sIx its.length 0 lo)).toArray := by
  obtain ⟨h1, h2, h3⟩ := slice_bounds lo hi its.toArray.size
  unfold slicePick
  rw [h1, h2, h3]
  simp only [sliceRange_one, pick_run, List.size_toArray] <;> rfl
/-- xs[lo:hi] of a list: a new list -/
def rSlL (K : PySem.W.Frag) : V → Option Int → Option Int → Hp → VK → Prop := fun x lo hi H Q => ∃ a xs, x = .ref a ∧ SqL K H a xs ∧ ∀ p, H p = none → Q (.ref p) (upd H p (.lst (cutV xs lo hi)))
theorem sl_list : SlR X (rSlL X.K) := by
  intro pins s σ H x v vl vu lo hi sl Q I rx hs pl pu h
  obtain ⟨a, xs, rfl, hx, q⟩ := h
  cases rx
  obtain ⟨its, r, ht, hz⟩ := I.list hx
  have hlen := r.length
  refine ⟨"list", _, slot_list_getitem.lookup, ht.isList.typeIs, ?_⟩
  refine wpAny_getItem_list_slice ht.isList hs pl pu .none (by simp) ?_ (by rw [List.size_toArray] <;> omega)
  rw [slicePick_cut, ← hlen]
  refine ⟨.ref s.heap.objs.size, _, I.laid (t' := s.toks) (o := .lst (cutV xs lo hi)) (fun b ob q => Heap.get?_push_of_some _ q) (Nat.le_refl _) ?_, rfl, q _ (I.hok.fresh (Nat.le_refl _))⟩
  exact ⟨Nat.le_trans (cutV_length xs lo hi) hz, _, 0, (r.drop (HT.sIx xs.length 0 lo)).take (HT.sIx xs.length xs.length hi - HT.sIx xs.length 0 lo), Heap.get?_push_size _ rfl⟩
/-! ### in, not in: flat items -/
def flatV : V → Bool
  | .non => true
  | .bl _ => true
  | .int _ => true
  | .str _ => true
  | _ => false
/-- == of flat values -/
def eqV : V → V → Bool
  | .non, .non => true
  | .bl a, .bl b => a == b
  | .bl a, .int b => (if a then 1 else 0) == b
  | .int a, .bl b => a == (if b then 1 else 0)
  | .int a, .int b => a == b
  | .str a, .str b => a == b
  | _, _ => false
theorem eqAt_V {A : Around} {s : Shared} {y x : V} {u v : Value} (ry : RelV y u) (rx : RelV x v) (fy : flatV y = true) (fx : flatV x = true) : SeqAt.EqAt A s u v (eqV y x) := by
  cases y with
  | non =>
    cases ry
    cases x with
    | non => cases rx; exact SeqAt.EqAt.same _
    | bl b => cases rx; exact SeqAt.EqAt.none_bool b
    | int b => obtain ⟨t, rfl⟩ := rx; exact SeqAt.EqAt.none_int b t
    | str b => obtain ⟨t, rfl⟩ := rx; exact SeqAt.EqAt.none_str b t
    | _ => exact absurd (show false = true from fx) Bool.false_ne_true
  | bl a =>
    cases ry
    cases x with
    | non => cases rx; exact SeqAt.EqAt.bool_none a
    | bl b => cases rx; exact SeqAt.EqAt.bool_bool a b
    | int b => obtain ⟨t, rfl⟩ := rx; exact SeqAt.EqAt.bool_int a b t
    | str b => obtain ⟨t, rfl⟩ := rx; exact SeqAt.EqAt.bool_str a b t
    | _ => exact absurd (show false = true from fx) Bool.false_ne_true
  | int a =>
    obtain ⟨t', rfl⟩ := ry
    cases x with
    | non => cases rx; exact SeqAt.EqAt.int_none a t'
    | bl b => cases rx; exact SeqAt.EqAt.int_bool a t' b
    | int b => obtain ⟨t, rfl⟩ := rx; exact SeqAt.EqAt.int_int a t' b t
    | str b => obtain ⟨t, rfl⟩ := rx; exact SeqAt.EqAt.int_str a t' b t
    | _ => exact absurd (show false = true from fx) Bool.false_ne_true
  | str a =>
    obtain ⟨t', rfl⟩ := ry
    cases x with
    | non => cases rx; exact SeqAt.EqAt.str_none a t'
    | bl b => cases rx; exact SeqAt.EqAt.str_bool a t' b
    | int b => obtain ⟨t, rfl⟩ := rx; exact SeqAt.EqAt.str_int a t' b t
    | str b => obtain ⟨t, rfl⟩ := rx; exact SeqAt.EqAt.str_str a t' b t
    | _ => exact absurd (show false = true from fx) Bool.false_ne_true
  | _ => exact absurd (show false = true from fy) Bool.false_ne_true
/-- the items' answers, read off the values (a value's own answer does not lean on its token) -/
def eqU (x : V) (u : Value) : Bool := match u with
  | .none => eqV .non x
  | .bool b => eqV (.bl b) x
  | .int i _ => eqV (.int i) x
  | .str z _ => eqV (.str z) x
  | _ => false
theorem eqU_of {x y : V} {u : Value} (r : RelV y u) (f : flatV y = true) : eqU x u = eqV y x := by
  cases y with
  | non => cases r; rfl
  | bl b => cases r; rfl
  | int i => obtain ⟨t, rfl⟩ := r; rfl
  | str z => obtain ⟨t, rfl⟩ := r; rfl
  | _ => exact absurd (show false = true from f) Bool.false_ne_true
theorem any_eqU {x : V} : ∀ {xs : List V} {us : List Value}, Vals xs us → xs.all flatV = true → us.any (eqU x) = xs.any fun y => eqV y x
  | _, _, .nil, _ => rfl
  | y :: xs, u :: us, .cons r t, f => by
    rw [List.all_cons, Bool.and_eq_true] at f
    rw [List.any_cons, List.any_cons, eqU_of r f.1, any_eqU t f.2]
theorem mem_eqAt {A : Around} {s : Shared} {x : V} {v : Value} (rx : RelV x v) (fx : flatV x = true) : ∀ {xs : List V} {us : List Value}, Vals xs us → xs.all flatV = true → ∀ u ∈ us, SeqAt.EqAt A s u v (eqU x u)
  | _, _, .nil, _ => fun u hu => by cases hu
  | y :: xs, u :: us, .cons r t, f => fun u' hu => by
    rw [List.all_cons, Bool.and_eq_true] at f
    rcases List.mem_cons.mp hu with rfl | hu
    · rw [eqU_of r f.1]; exact eqAt_V r rx f.1 fx
    · exact mem_eqAt rx fx t f.2 u' hu
def inV (x : V) (xs : List V) : Bool := xs.any fun y => eqV y x
/-- x in a list or tuple of flat items -/
def rIn (K : PySem.W.Frag) (neg : Bool) : R2 := fun x y H Q => ∃ p xs, y = .ref p ∧ (SqL K H p xs ∨ SqT K H p xs) ∧ flatV x = true ∧ xs.all flatV = true ∧ Q (.bl (if neg then !inV x xs else inV x xs)) H
theorem op_in_seq : OpR X (compareOp .In) (rIn X.K false) := by
  intro pins s σ H x y v u Q I rx ry h
  obtain ⟨p, xs, rfl, hq, fx, fs, q⟩ := h
  cases ry
  rcases hq with hq | hq
  · obtain ⟨its, r, pl, hz⟩ := I.list hq
    refine SeqAt.in_listAt (eqU x) pl.isList (fun w hw => mem_eqAt rx fx r fs w (by simpa using hw)) ⟨.bl _, H, I, rfl, ?_⟩
    rw [show its.toArray.any (eqU x) = its.any (eqU x) by simp, any_eqU r fs]
    exact q
  · obtain ⟨its, r, pl, hz⟩ := I.tuple hq
    refine SeqAt.in_tupleAt (eqU x) pl (fun w hw => mem_eqAt rx fx r fs w (by simpa using hw)) ⟨.bl _, H, I, rfl, ?_⟩
    rw [show its.toArray.any (eqU x) = its.any (eqU x) by simp, any_eqU r fs]
    exact q
/-! ### len, list(x), tuple(x) of any list or tuple that is read -/
theorem call_len_seq : CallR X (.builtin "len") (fun xs H Q => ∃ p ys, xs = [.ref p] ∧ (SqL X.K H p ys ∨ SqT X.K H p ys) ∧ Q (.int ys.length) H) := by
  intro pins s σ H xs us Q I r h
  obtain ⟨p, ys, rfl, hq, q⟩ := h
  obtain ⟨u, rfl, rx⟩ := vals1 r
  cases rx
  have hn := line63
  rcases hq with hq | hq
  · obtain ⟨its, r', pl, hz⟩ := I.list hq
    have hlen := r'.length
    exact Calls.call_len_list pl.isList (by simp only [List.size_toArray] <;> omega) ⟨.int ys.length, H, I.tok _, ⟨s.toks + 1, by rw [List.size_toArray, hlen]⟩, q⟩
  · obtain ⟨its, r', pl, hz⟩ := I.tuple hq
    have hlen := r'.length
    exact len_tuple pl (by simp only [List.size_toArray] <;> omega) ⟨.int ys.length, H, I.tok _, ⟨s.toks + 1, by rw [List.size_toArray, hlen]⟩, q⟩
theorem CallR.or {f : Value} {r r' : List V → Hp → VK → Prop} (h : CallR X f r) (h' : CallR X f r') : CallR X f (fun xs H Q => r xs H Q ∨ r' xs H Q) := by
  intro pins s σ H xs us Q I rs q
  rcases q with q | q
  · exact h pins s σ H xs us Q I rs q
  · exact h' pins s σ H xs us Q I rs q
theorem call_list_of : CallR X (.type "list") (fun xs H Q => ∃ p ys, xs = [.ref p] ∧ (SqL X.K H p ys ∨ SqT X.K H p ys) ∧ ∀ l, H l = none → Q (.ref l) (upd H l (.lst ys))) := by
  intro pins s σ H xs us Q I r h
  obtain ⟨p, ys, rfl, hq, q⟩ := h
  obtain ⟨u, rfl, rx⟩ := vals1 r
  cases rx
  have fin : ∀ (its : List Value), Vals ys its → ys.length ≤ sizeLine → ∀ (h' : Heap) (c' : Nat), (∀ b o', s.heap.get? b = some o' → h'.get? b = some o') →
      h'.get? s.heap.objs.size = some { cls := .type "list", dict := none, data := .seq its.toArray c', slots := #[] } → EP X pins σ Q (.ref s.heap.objs.size) { s with heap := h' } := fun its r' hz h' c' kp e =>
    ⟨.ref s.heap.objs.size, _, I.laid (t' := s.toks) kp (Nat.le_refl _) (show ObjOk X.prog X.w _ h' _ (.lst ys) from ⟨hz, its, c', r', e⟩), rfl, q _ (I.hok.fresh (Nat.le_refl _))⟩
  rcases hq with hq | hq
  · obtain ⟨its, r', pl, hz⟩ := I.list hq
    have hlen := r'.length
    obtain ⟨o, ho, hc, n, hd⟩ := pl.isList
    exact call_list_seq p (.inl rfl) ho hc hd (fun h' c' kp e => fin its r' hz h' c' kp e) (by simp only [List.size_toArray] <;> omega)
  · obtain ⟨its, r', pl, hz⟩ := I.tuple hq
    have hlen := r'.length
    obtain ⟨o, ho, hc, n, hd⟩ := pl
    exact call_list_seq p (.inr rfl) ho hc hd (fun h' c' kp e => fin its r' hz h' c' kp e) (by simp only [List.size_toArray] <;> omega)
/-! ### the call of a builtin's method: o.m(..) -/
/-- the value is of that builtin type -/
def tyV (K : PySem.W.Frag) (T : String) (x : V) (H : Hp) : Prop := match x with
  | .str _ => T = "str"
  | .int _ => T = "int"
  | .ref p => (T = "list" ∧ ∃ xs, SqL K H p xs) ∨ (T = "tuple" ∧ ∃ o, K.lookup p = some o ∧ o.cls = .type "tuple" ∧ o.dict = none) ∨
      (T = "dict" ∧ ((∃ kvs, H p = some (.dK kvs)) ∨ ∃ kvs, H p = some (.dT kvs))) ∨ (T = "set" ∧ ∃ S n, H p = some (.set S n))
  | _ => False
theorem tyV_is {pins : List (Addr × Obj)} {σ : St} {H : Hp} {s : Shared} {T : String} {x : V} {v : Value} (I : Inv X pins σ H s) (r : RelV x v) (ty : tyV X.K T x H) :
    s.TypeIs v T ∧ ∀ a, v = .ref a → ∃ ob, s.heap.get? a = some ob ∧ ob.dict = none := by
  cases x with
  | str z =>
    obtain ⟨t, rfl⟩ := r
    cases (show T = "str" from ty)
    exact ⟨typeIs_str s z t, fun _ e => nomatch e⟩
  | int i =>
    obtain ⟨t, rfl⟩ := r
    cases (show T = "int" from ty)
    exact ⟨typeIs_int s i t, fun _ e => nomatch e⟩
  | ref p =>
    cases r
    rcases ty with ⟨rfl, xs, hq⟩ | ⟨rfl, o, hk, hc, hd⟩ | ⟨rfl, hk⟩ | ⟨rfl, S, n, hk⟩
    · obtain ⟨its, _, pl, _⟩ := I.list hq
      refine ⟨pl.isList.typeIs, fun a e => ?_⟩
      cases e
      obtain ⟨o, n, e, c, hd, _⟩ := pl
      exact ⟨o, e, hd⟩
    · refine ⟨⟨o, I.kIn p o hk, hc⟩, fun a e => ?_⟩
      cases e
      exact ⟨o, I.kIn _ o hk, hd⟩
    · have z : ∃ o, s.heap.get? p = some o ∧ o.ExactDict := by
        rcases hk with ⟨kvs, hk⟩ | ⟨kvs, hk⟩
        · obtain ⟨_, _, _, _, o, _, _, e, ex, _⟩ := I.hok p _ hk
          exact ⟨o, e, ex⟩
        · obtain ⟨_, _, _, _, o, _, _, e, ex, _⟩ := I.hok p _ hk
          exact ⟨o, e, ex⟩
      obtain ⟨o, e, ex⟩ := z
      refine ⟨⟨o, e, ex.1⟩, fun a e2 => ?_⟩
      cases e2
      exact ⟨o, e, ex.2.1⟩
    · obtain ⟨o, _, _, _, e, ex, _⟩ := I.hok p _ hk
      refine ⟨⟨o, e, ex.1⟩, fun a e2 => ?_⟩
      cases e2
      exact ⟨o, e, ex.2.1⟩
  | _ => exact False.elim ty
def tBM0 (K : PySem.W.Frag) (T : String) (r : V → List V → Hp → VK → Prop) (to : TE) : TE := fun σ H Q => to σ H fun x H1 => tyV K T x H1 ∧ r x [] H1 Q
def tBM (K : PySem.W.Frag) (T : String) (r : V → List V → Hp → VK → Prop) (to : TE) (t : TA) : TE := fun σ H Q => to σ H fun x H1 => tyV K T x H1 ∧ t σ H1 fun xs H2 => r x xs H2 Q
variable {o e : Expr} {es : List Expr} {to : TE} {t : TA} {name : Str} {apos cpos : Pos} {T id : String} {r : V → List V → Hp → VK → Prop}
theorem pe_bm0 (pa : PlainAttrs T) (slot : Slot T name id) (hty : typeOf (.builtin id) = pure (.type "method_descriptor")) (hm : MtR X id r) (ho : PE X o to)
    (hbase : attributeBase o name X.env (eval o X.env) = eval o X.env := by rfl) (hline : (apos.endLine == cpos.line) = true := by rfl) : PE X (.Call (.Attribute o name apos) [] [] cpos) (tBM0 X.K T r to) := by
  intro pins s σ H Q I h
  refine wpAny_Call_method0_late hbase hline (thn (ho pins s σ H _ I h) fun v s1 ⟨x, H1, I1, r1, ty, q1⟩ => ?_)
  obtain ⟨h1, h2⟩ := tyV_is I1 r1 ty
  exact ⟨T, id, pa, slot, hty, h1, h2, Calls.callWith_builtin rfl (PySem.evalArgs_none (hm pins s1 σ H1 x [] v [] Q I1 r1 .nil q1))⟩
theorem pe_bm (pa : PlainAttrs T) (slot : Slot T name id) (hty : typeOf (.builtin id) = pure (.type "method_descriptor")) (hm : MtR X id r) (ho : PE X o to) (ha : PA X (e :: es) t)
    (hbase : attributeBase o name X.env (eval o X.env) = eval o X.env := by rfl)
    (hfew : ((backTo cpos (starEach (e :: es) X.env)).all (fun x => !x.1) && (backToKw cpos (keywordEach [] X.env)).all (fun x => x.1.isSome)
      && decide ((e :: es).length + ([] : List Keyword).length + (if ([] : List Keyword).isEmpty then 0 else 1) < 30)) = true := by rfl)
    (hline : (apos.endLine == cpos.line) = true := by rfl) (hs : starEach (e :: es) X.env = (false, eval e X.env) :: starEach es X.env := by rfl) (hplain : (backTo cpos (starEach es X.env)).any (·.1) = false := by rfl) :
    PE X (.Call (.Attribute o name apos) (e :: es) [] cpos) (tBM X.K T r to t) := by
  intro pins s σ H Q I h
  refine wpAny_Call_method_late hbase hfew hline rfl (thn (ho pins s σ H _ I h) fun v s1 ⟨x, H1, I1, r1, ty, q1⟩ => ?_)
  obtain ⟨h1, h2⟩ := tyV_is I1 r1 ty
  refine ⟨T, id, pa, slot, hty, h1, h2, ?_⟩
  have hA := ha cpos pins s1 σ H1 _ I1 q1
  rw [hs] at hA ⊢
  refine Calls.callWith_builtin (by show (false || (backTo cpos (starEach es X.env)).any (·.1)) = false; rw [hplain] <;> rfl) (Calls.evalArgs_plain ?_)
  exact thn hA fun us s2 ⟨vs, H2, I2, r2, q2⟩ => hm pins s2 σ H2 x vs v us Q I2 r1 r2 q2
end
end L2
namespace L2
open PySem PySem.Spec PyProof.Rows
def MtM (X : Cx) (id : String) (r : V → List V → Hp → VK → Prop) : Prop :=
  ∀ (pins : List (Addr × Obj)) (s : Shared) (σ : St) (H : Hp) (x : V) (xs : List V) (v : Value) (us : List Value) (Q : VK), Inv X pins σ H s → RelV x v → Vals xs us → r x xs H Q →
    wpAny (model X.prog X.w) X.A (call (.builtin id) (v :: us)) (EP X pins σ Q) X.xe s
/-! ### lists of values -/
theorem Vals.one : ∀ {x : V} {us : List Value}, Vals [x] us → ∃ u, us = [u] ∧ RelV x u
  | _, _, .cons r .nil => ⟨_, rfl, r⟩
theorem Vals.two : ∀ {x y : V} {us : List Value}, Vals [x, y] us → ∃ u v, us = [u, v] ∧ RelV x u ∧ RelV y v
  | _, _, _, .cons r (.cons q .nil) => ⟨_, _, rfl, r, q⟩
theorem Vals.zero : ∀ {us : List Value}, Vals [] us → us = []
  | _, .nil => rfl
theorem Vals.dropLast {xs : List V} {us : List Value} (h : Vals xs us) : Vals xs.dropLast us.dropLast := by
  induction h with
  | nil => exact .nil
  | cons r t ih =>
    cases t with
    | nil => exact .nil
    | cons q t' => exact .cons r ih
theorem Vals.eraseIdx : ∀ {xs : List V} {us : List Value} (i : Nat), Vals xs us → Vals (xs.eraseIdx i) (us.eraseIdx i)
  | _, _, _, .nil => .nil
  | _, _, 0, .cons _ t => t
  | _, _, i + 1, .cons r t => .cons r (Vals.eraseIdx i t)
theorem Vals.reverse {xs : List V} {us : List Value} (h : Vals xs us) : Vals xs.reverse us.reverse := by
  induction h with
  | nil => exact .nil
  | cons r t ih => rw [List.reverse_cons, List.reverse_cons]; exact Vals.append ih (.cons r .nil)
theorem Vals.rep {xs : List V} {us : List Value} (h : Vals xs us) : ∀ k : Nat, Vals (List.replicate k xs).flatten (List.replicate k us).flatten
  | 0 => .nil
  | k + 1 => by
    rw [List.replicate_succ, List.replicate_succ, List.flatten_cons, List.flatten_cons]
    exact Vals.append h (Vals.rep h k)
theorem erase_last {α : Type} (l : List α) : l.eraseIdx (l.length - 1) = l.dropLast := by
  induction l with
  | nil => rfl
  | cons a r ih =>
    cases r with
    | nil => rfl
    | cons b r =>
      have e : (a :: b :: r).length - 1 = ((b :: r).length - 1) + 1 := by
        have h1 : (a :: b :: r).length = r.length + 2 := rfl
        have h2 : (b :: r).length = r.length + 1 := rfl
        omega
      rw [e, List.eraseIdx_cons_succ, ih]
      all_goals rfl
theorem foldl_rep (its : List Value) : ∀ (k : Nat) (acc : List Value),
    List.foldl (fun x1 x2 => x1 ++ x2) acc.toArray (List.replicate k its.toArray) = (acc ++ (List.replicate k its).flatten).toArray
  | 0, acc => by simp
  | k + 1, acc => by
    have e : acc.toArray ++ its.toArray = (acc ++ its).toArray := by simp
    have e2 : (acc ++ its) ++ (List.replicate k its).flatten = acc ++ (List.replicate (k + 1) its).flatten := by
      rw [List.replicate_succ, List.flatten_cons, List.append_assoc]
    rw [← e2, ← foldl_rep its k (acc ++ its), ← e, List.replicate_succ, List.foldl_cons]
section
variable {X : Cx} {pins : List (Addr × Obj)} {σ : St} {H : Hp} {s : Shared} {l b : Addr} {xs ys zs : List V}
/-! ### the two steps: a tracked list is rewritten, a new list is laid -/
theorem Inv.lset {its its' : List Value} {n : Nat} {f : Array Value → Array Value} {t' : Nat} (I : Inv X pins σ H s) (hH : H l = some (.lst xs))
    (e : s.heap.get? l = some { cls := .type "list", data := .seq its.toArray n }) (hf : f its.toArray = its'.toArray) (hv : Vals ys its') (hz : ys.length ≤ sizeLine) :
    Inv X pins σ (upd H l (.lst ys)) { s with heap := s.heap.update l (Obj.mapSeq f), toks := t' } := by
  have q := PySem.IsL.update e f
  rw [hf] at q
  refine I.write (x := l) (e := l) (by rw [hH]; exact trivial) (.inl rfl) (fun b' u hb hu => (Heap.get?_update_other s.heap (Obj.mapSeq f) (Ne.symm hb)).trans hu) ⟨_, q⟩ ?_
  exact ⟨hz, its', _, hv, q⟩
theorem Inv.lnew {its : List Value} {t' : Nat} (I : Inv X pins σ H s) (hv : Vals ys its) (hz : ys.length ≤ sizeLine) :
    Inv X pins σ (upd H s.heap.objs.size (.lst ys)) { s with heap := s.heap.push { cls := .type "list", data := .seq its.toArray }, toks := t' } :=
  I.laid (fun _ _ q => Heap.get?_push_of_some _ q) (Nat.le_refl _) ⟨hz, its, 0, hv, Heap.get?_push_size _ rfl⟩
theorem Inv.fresh (I : Inv X pins σ H s) : H s.heap.objs.size = none := I.hok.fresh (Nat.le_refl _)
theorem Inv.lstM (I : Inv X pins σ H s) (hH : H l = some (.lst xs)) : xs.length ≤ sizeLine ∧ ∃ (its : List Value) (n : Nat), Vals xs its ∧ xs.length = its.length ∧ s.heap.get? l = some { cls := .type "list", data := .seq its.toArray n } := by
  obtain ⟨z, its, n, r, e⟩ := I.hok l _ hH
  exact ⟨z, its, n, r, r.length, e⟩
theorem notLongL {n : Nat} (h : n ≤ sizeLine) : Builtin.List.listTooLong n = false := by
  unfold Builtin.List.listTooLong
  exact decide_eq_false (by omega)
end
section
variable {X : Cx}
/-! ### methods -/
def rAppend : V → List V → Hp → VK → Prop := fun x vs H Q => ∃ l xs y, x = .ref l ∧ vs = [y] ∧ H l = some (.lst xs) ∧ xs.length < sizeLine ∧ Q .non (upd H l (.lst (xs ++ [y])))
theorem mt_append : MtM X "list.append" rAppend := by
  intro pins s σ H x vs v us Q I rx rv h
  obtain ⟨l, xs, y, rfl, rfl, hH, hz, q⟩ := h
  cases rx
  obtain ⟨u, rfl, ru⟩ := rv.one
  obtain ⟨z, its, n, r, hl, e⟩ := I.lstM hH
  refine call_meets F.slot_list_append ⟨_, e, rfl⟩ F.entry_list_append (F.args_list_append_2 _ _) (PySem.list_append l its.toArray n u (by rw [List.size_toArray]; omega)) ⟨e, ?_⟩
  refine ⟨.non, _, I.lset (its' := its ++ [u]) hH e (by simp) (r.append (.cons ru .nil)) ?_, rfl, q⟩
  rw [List.length_append, List.length_singleton]
  omega
def rExtend : V → List V → Hp → VK → Prop := fun x vs H Q => ∃ l b xs zs, x = .ref l ∧ vs = [.ref b] ∧ H l = some (.lst xs) ∧ H b = some (.lst zs) ∧ xs.length + zs.length ≤ sizeLine ∧ Q .non (upd H l (.lst (xs ++ zs)))
theorem mt_extend : MtM X "list.extend" rExtend := by
  intro pins s σ H x vs v us Q I rx rv h
  obtain ⟨l, b, xs, zs, rfl, rfl, hH, hB, hz, q⟩ := h
  cases rx
  obtain ⟨u, rfl, ru⟩ := rv.one
  cases ru
  obtain ⟨z, its, n, r, hl, e⟩ := I.lstM hH
  obtain ⟨z2, its2, n2, r2, hl2, e2⟩ := I.lstM hB
  have hsz : its.toArray.size + its2.toArray.size ≤ sizeLine := by rw [List.size_toArray, List.size_toArray]; omega
  have hlong : ¬ (!its.toArray.isEmpty && Builtin.List.listTooLong (its.toArray.size + its2.toArray.size)) = true := by
    rw [notLongL hsz, Bool.and_false]
    exact Bool.false_ne_true
  refine call_meets F.slot_list_extend ⟨_, e, rfl⟩ F.entry_list_extend (F.args_list_extend_2 _ _)
    (AutoSeq1.list_extend_list_list_0 l its.toArray n b its2.toArray n2 hlong (by rw [List.size_toArray]; omega) (by omega)) ⟨e, e2, ?_⟩
  refine ⟨.non, _, I.lset (its' := its ++ its2) hH e (by simp) (r.append r2) ?_, rfl, q⟩
  rw [List.length_append]
  omega
def rPop : V → List V → Hp → VK → Prop := fun x vs H Q => ∃ l xs y, x = .ref l ∧ vs = [] ∧ H l = some (.lst xs) ∧ xs[xs.length - 1]? = some y ∧ Q y (upd H l (.lst xs.dropLast))
theorem mt_pop : MtM X "list.pop" rPop := by
  intro pins s σ H x vs v us Q I rx rv h
  obtain ⟨l, xs, y, rfl, rfl, hH, hy, q⟩ := h
  cases rx
  have hus := rv.zero
  subst hus
  obtain ⟨z, its, n, r, hl, e⟩ := I.lstM hH
  obtain ⟨u, hu, ru⟩ := r.get hy
  have hy' : its.toArray[its.toArray.size - 1]? = some u := by
    show its.toArray[its.length - 1]? = some u
    rw [← Array.getElem?_toList, ← hl]
    exact hu
  refine call_meets F.slot_list_pop ⟨_, e, rfl⟩ F.entry_list_pop (F.args_list_pop_1 _) (MeetsSeq.list_pop_last l its.toArray n u hy' (by rw [List.size_toArray]; omega)) ⟨e, ?_⟩
  refine ⟨y, _, I.lset (its' := its.dropLast) hH e ?_ r.dropLast ?_, ru, q⟩
  · show its.toArray.eraseIdxIfInBounds (its.toArray.size - 1) = its.dropLast.toArray
    rw [List.size_toArray, List.eraseIdxIfInBounds_toArray, erase_last]
  · rw [List.length_dropLast]
    omega
def rPopAt : V → List V → Hp → VK → Prop := fun x vs H Q => ∃ l xs i k y, x = .ref l ∧ vs = [.int i] ∧ H l = some (.lst xs) ∧ -(2 ^ 63) ≤ i ∧ i < 2 ^ 63 ∧ seqIndex? i xs.length = some k ∧ xs[k]? = some y ∧ Q y (upd H l (.lst (xs.eraseIdx k)))
def rReverse : V → List V → Hp → VK → Prop := fun x vs H Q => ∃ l xs, x = .ref l ∧ vs = [] ∧ H l = some (.lst xs) ∧ Q .non (upd H l (.lst xs.reverse))
def rClear : V → List V → Hp → VK → Prop := fun x vs H Q => ∃ l xs, x = .ref l ∧ vs = [] ∧ H l = some (.lst xs) ∧ Q .non (upd H l (.lst []))
/-! ### list + list, list += list, list * int -/
def rCat : R2 := fun x y H Q => ∃ l b xs zs, x = .ref l ∧ y = .ref b ∧ H l = some (.lst xs) ∧ H b = some (.lst zs) ∧ xs.length + zs.length ≤ sizeLine ∧ ∀ p, H p = none → Q (.ref p) (upd H p (.lst (xs ++ zs)))
theorem op_cat : OpR X (binaryOp .Add) rCat := by
  intro pins s σ H x y v u Q I rx ry h
  obtain ⟨l, b, xs, zs, rfl, rfl, hH, hB, hz, q⟩ := h
  cases rx
  cases ry
  obtain ⟨z, its, n, r, hl, e⟩ := I.lstM hH
  obtain ⟨z2, its2, n2, r2, hl2, e2⟩ := I.lstM hB
  refine PySem.P.add_list e e2 ?_ (by rw [List.size_toArray, List.size_toArray]; omega)
  have ea : its.toArray ++ its2.toArray = (its ++ its2).toArray := by simp
  rw [ea]
  exact ⟨.ref _, _, I.lnew (t' := s.toks) (r.append r2) (by rw [List.length_append]; omega), rfl, q _ I.fresh⟩
/-- a list times an int (a negative one is nothing) -/
def rRep : R2 := fun x y H Q => ∃ l k xs, x = .ref l ∧ y = .int k ∧ H l = some (.lst xs) ∧ -(2 ^ 63) ≤ k ∧ k < 2 ^ 63 ∧ xs.length * k.toNat ≤ sizeLine ∧
  ∀ p, H p = none → Q (.ref p) (upd H p (.lst (List.replicate k.toNat xs).flatten))
theorem len_rep {α : Type} (xs : List α) (k : Nat) : (List.replicate k xs).flatten.length = k * xs.length := by
  induction k with
  | zero => simp
  | succ k ih => rw [List.replicate_succ, List.flatten_cons, List.length_append, ih, Nat.succ_mul, Nat.add_comm]
theorem op_rep : OpR X (binaryOp .Mult) rRep := by
  intro pins s σ H x y v u Q I rx ry h
  obtain ⟨l, k, xs, rfl, rfl, hH, h1, h2, hz, q⟩ := h
  cases rx
  obtain ⟨t, rfl⟩ := ry
  obtain ⟨z, its, n, r, hl, e⟩ := I.lstM hH
  have hlen : its.toArray.size * k.toNat ≤ sizeLine := by rw [List.size_toArray, ← hl]; exact hz
  have hcap : ¬ its.toArray.size * k.toNat > (2 ^ 63 - 1) / 8 := by
    have : (sizeLine : Nat) ≤ (2 ^ 63 - 1) / 8 := by decide
    omega
  have hfit : ¬ (!Builtin.List.listFitsIndex k) = true := by
    rw [fitsIndex_both h1 h2]
    exact Bool.false_ne_true
  have hlong : ¬ Builtin.List.listTooLong (its.toArray.size * k.toNat) = true := by
    rw [notLongL hlen]
    exact Bool.false_ne_true
  have hnew : List.foldl (fun x1 x2 => x1 ++ x2) #[] (List.replicate (if its.toArray.isEmpty = true then 0 else k.toNat) its.toArray) = (List.replicate k.toNat its).flatten.toArray := by
    have f0 : ∀ m : Nat, List.foldl (fun x1 x2 => x1 ++ x2) #[] (List.replicate m its.toArray) = (List.replicate m its).flatten.toArray := fun m => by
      have := foldl_rep its m []
      rw [List.nil_append] at this
      exact this
    rw [f0]
    cases its with
    | nil => simp
    | cons a r' => rw [if_neg (by simp)]
  refine wpAny_binaryOp_repeat_ref (T := "list") (U := "int") (by decide) ⟨_, e, rfl⟩ (fun s' => typeIs_int s' k t) noFill_list_mul F.fills_int_mul F.slot_int_rmul repeat_list F.slot_int_index.lookup
    (call_meets F.slot_int_rmul (typeIs_int s k t) F.entry_int_rmul (F.args_int_rmul_2 _ _) (int___rmul___int_list k t l its.toArray n)
      ⟨e, rfl, ⟨_, e, rfl⟩, call_meets F.slot_list_mul ⟨_, e, rfl⟩ F.entry_list_mul (F.args_list_mul_2 _ _) (AutoListH.list___mul___list_int_3 l its.toArray n k t hfit hcap hlong) ⟨e, ?_⟩⟩)
  rw [hnew]
  exact ⟨.ref _, _, I.lnew (t' := s.toks) (r.rep k.toNat) (by rw [len_rep, Nat.mul_comm]; exact hz), rfl, q _ I.fresh⟩
/-! ### del xs[i] -/
end
/-! ### xs[a:b] = ys -/
section
variable {prog : Program} {w : World} {A : Around} {E : Value → Shared → Prop} {s : Shared}
end
section
variable {X : Cx}
end
end L2
namespace L2
open PySem PySem.Spec PyProof.Rows
theorem Vals.ints : ∀ {ns : List Int} {us : List Value}, Vals (ns.map V.int) us → IntsAre us ns
  | [], us, h => by
    rw [List.map_nil] at h
    cases h
    exact IntsAre.nil
  | n :: ns, us, h => by
    rw [List.map_cons] at h
    cases h with
    | cons r t =>
      obtain ⟨k, rfl⟩ := r
      exact IntsAre.cons n k (Vals.ints t)
theorem Vals.strs : ∀ {xs : List Str} {us : List Value}, Vals (xs.map V.str) us → StrsAre us xs
  | [], us, h => by
    rw [List.map_nil] at h
    cases h
    exact StrsAre.nil
  | x :: xs, us, h => by
    rw [List.map_cons] at h
    cases h with
    | cons r t =>
      obtain ⟨k, rfl⟩ := r
      exact StrsAre.cons x k (Vals.strs t)
theorem Vals.bls : ∀ {bs : List Bool} {us : List Value}, Vals (bs.map V.bl) us → us = bs.map Value.bool
  | [], us, h => by
    rw [List.map_nil] at h
    cases h
    rfl
  | b :: bs, us, h => by
    rw [List.map_cons] at h
    cases h with
    | cons r t =>
      cases r
      rw [Vals.bls t, List.map_cons]
theorem Vals.ref1 {a : Addr} {us : List Value} (r : Vals [V.ref a] us) : us = [Value.ref a] := by
  cases r with
  | cons r t =>
    cases t
    cases r
    rfl
/-! ### the library's walks over a list of ints, kept objects alone -/
section
variable {prog : Program} {w : World} {A : Around} {E : Value → Shared → Prop} {s : Shared} {l : Addr} {its : List Value} {ns : List Int} {Q : Value → Shared → Prop}
theorem sum_raw (hh : A.handled = none) (hl : s.heap.IsList l its.toArray) (hi : IntsAre its ns)
    (h : ∀ h' tk t', (∀ b o, s.heap.get? b = some o → h'.get? b = some o) → Q (.int ns.sum t') { s with heap := h', toks := tk }) : wpAny (model prog w) A (call (.builtin "sum") [.ref l]) Q E s := by
  obtain ⟨xs, e⟩ := hi.allInts.items
  have hn : numsOf (intItems xs).toList = ns := by rw [← e]; exact hi.numsOf
  rw [nums_intItems] at hn
  rw [e] at hl
  refine PySem.sum_intListG hh hl fun h' tk t' hk => ?_
  have := h h' tk t' hk
  rw [preSum_eq, List.take_of_length_le (by simp), hn]; exact this
theorem max_raw (hh : A.handled = none) (hl : s.heap.IsList l its.toArray) (hi : IntsAre its ns) (hne : 0 < ns.length)
    (h : ∀ h' tk M t', (∀ b o, s.heap.get? b = some o → h'.get? b = some o) → M ∈ ns → (∀ a, a ∈ ns → a ≤ M) → Q (.int M t') { s with heap := h', toks := tk }) : wpAny (model prog w) A (call (.builtin "max") [.ref l]) Q E s := by
  obtain ⟨xs, e⟩ := hi.allInts.items
  have hn : numsOf (intItems xs).toList = ns := by rw [← e]; exact hi.numsOf
  rw [nums_intItems] at hn
  subst hn
  rw [e] at hl
  have hsz : 0 < xs.size := by simpa using hne
  refine PySem.max_intList hh hl hsz fun v h' tk hv hk => ?_
  obtain ⟨t, rfl⟩ := intItems_at hv
  obtain ⟨h1, h2⟩ := argBest_gt (numAt xs) (xs.size - 1)
  refine h h' tk _ t hk ?_ fun a ha => ?_
  · rw [numAt_eq]; exact PySem.getD_mem (by rw [List.length_map, Array.length_toList]; omega)
  · obtain ⟨j, hj, rfl⟩ := mem_getD ha
    rw [List.length_map, Array.length_toList] at hj
    rw [← numAt_eq]; exact h2 j (by omega)
end
/-! ### the calls, by values (CallR of 03t; MtR of 06l) -/
section
variable {X : Cx}
/-- sum(xs) of a list of ints -/
def rSum (K : PySem.W.Frag) : List V → Hp → VK → Prop := fun vs H Q => ∃ (a : Addr) (ns : List Int), vs = [V.ref a] ∧ SqL K H a (ns.map V.int) ∧ Q (.int ns.sum) H
/-- max(xs), min(xs) of a list of ints -/
def rMax (K : PySem.W.Frag) : List V → Hp → VK → Prop := fun vs H Q => ∃ (a : Addr) (ns : List Int), vs = [V.ref a] ∧ SqL K H a (ns.map V.int) ∧ 0 < ns.length ∧ ∀ m, m ∈ ns → (∀ y, y ∈ ns → y ≤ m) → Q (.int m) H
def rMin (K : PySem.W.Frag) : List V → Hp → VK → Prop := fun vs H Q => ∃ (a : Addr) (ns : List Int), vs = [V.ref a] ∧ SqL K H a (ns.map V.int) ∧ 0 < ns.length ∧ ∀ m, m ∈ ns → (∀ y, y ∈ ns → m ≤ y) → Q (.int m) H
theorem cr_sum (hc : X.calm = true) : CallR X (.builtin "sum") (rSum X.K) := by
  intro pins s σ H vs us Q I r h
  obtain ⟨a, ns, rfl, hs, q⟩ := h
  obtain ⟨its, rv, hl, _⟩ := I.list hs
  rw [Vals.ref1 r]
  exact sum_raw (I.ok.hd hc) hl.isList rv.ints fun h' tk t' hk => ⟨.int _, H, I.kept hk, ⟨_, rfl⟩, q⟩
theorem cr_max (hc : X.calm = true) : CallR X (.builtin "max") (rMax X.K) := by
  intro pins s σ H vs us Q I r h
  obtain ⟨a, ns, rfl, hs, hne, q⟩ := h
  obtain ⟨its, rv, hl, _⟩ := I.list hs
  rw [Vals.ref1 r]
  exact max_raw (I.ok.hd hc) hl.isList rv.ints hne fun h' tk m t' hk h1 h2 => ⟨.int _, H, I.kept hk, ⟨_, rfl⟩, q m h1 h2⟩
/-! sorted, sort (fewer than 64 items: the library's own bound) -/
def rSorted (K : PySem.W.Frag) : List V → Hp → VK → Prop := fun vs H Q => ∃ (a : Addr) (ns : List Int), vs = [V.ref a] ∧ SqL K H a (ns.map V.int) ∧ ns.length < 64 ∧
  ∀ (ns' : List Int) (p : Addr), ns'.Perm ns → ns'.Pairwise (· ≤ ·) → H p = none → Q (.ref p) (upd H p (.lst (ns'.map V.int)))
def rSortedS (K : PySem.W.Frag) : List V → Hp → VK → Prop := fun vs H Q => ∃ (a : Addr) (xs : List Str), vs = [V.ref a] ∧ SqL K H a (xs.map V.str) ∧ xs.length < 64 ∧
  ∀ (ys : List Str) (p : Addr), ys.Perm xs → sortedS ys = true → H p = none → Q (.ref p) (upd H p (.lst (ys.map V.str)))
/-- xs.sort(), ints -/
def rSort : V → List V → Hp → VK → Prop := fun x xs H Q => ∃ (a : Addr) (ns : List Int), x = V.ref a ∧ xs = [] ∧ H a = some (.lst (ns.map V.int)) ∧ ns.length < 64 ∧
  ∀ ns' : List Int, ns'.Perm ns → ns'.Pairwise (· ≤ ·) → Q .non (upd H a (.lst (ns'.map V.int)))
end
/-! ### list.index, flat items -/
section
variable {X : Cx}
def rIndex (K : PySem.W.Frag) : V → List V → Hp → VK → Prop := fun x xs H Q => ∃ (a : Addr) (ys : List V) (y : V) (j : Nat) (z : V), x = V.ref a ∧ xs = [y] ∧ SqL K H a ys ∧ flatV y = true ∧ ys.all flatV = true ∧ ys[j]? = some z ∧ eqV z y = true ∧
  (∀ (m : Nat) (z' : V), m < j → ys[m]? = some z' → eqV z' y = false) ∧ Q (.int (j : Nat)) H
end
/-! ### type(x) of an own instance; is, is not of a module's class -/
section
variable {X : Cx}
end
/-! ### any(xs), all(xs) of a list of bools -/
theorem iter_any {prog : Program} {w : World} {A : Around} {E : Value → Shared → Prop} {s : Shared} {l : Addr} {items : Array Value} {Q : Value → Shared → Prop} (hl : s.heap.IsList l items)
    (h : ∀ s₂ : Shared, s₂ = { s with heap := s.heap.push { cls := .type "list_iterator", data := .fields #[.ref l, .int 0 0] } } →
      (s₂.heap.IsListIter s.heap.objs.size l 0 ∧ s₂.heap.IsList l items) → l ≠ s.heap.objs.size → Q (.ref s.heap.objs.size) s₂) : wpAny (model prog w) A (pyIter (.ref l)) Q E s := by
  have hlt : l < s.heap.objs.size := by obtain ⟨_, e, _⟩ := hl; exact Heap.lt_size e
  exact wpAny_pyIter_list hl (h _ rfl ⟨⟨_, Heap.get?_push_size _ rfl, rfl, rfl⟩, hl.push _⟩ (Nat.ne_of_lt hlt))
theorem truth_bools {prog : Program} {w : World} {A : Around} {bs : List Bool} {its : List Value} (e : its = bs.map Value.bool) :
    TruthOf prog w A (fun i v => its.toArray[i]? = some v) (fun i => bs.getD i false) := fun i v s Q E hv hq => by
  have hv' : its[i]? = some v := by simpa using hv
  rw [e, List.getElem?_map] at hv'
  obtain ⟨b, hb, rfl⟩ := Option.map_eq_some_iff.mp hv'
  have hg : bs.getD i false = b := by rw [List.getD_eq_getElem?_getD, hb] <;> rfl
  have hq' : Q (bs.getD i false) s := hq
  rw [hg] at hq'
  exact wpAny_truthy_bool hq'
theorem all_range : ∀ bs : List Bool, (List.range bs.length).all (fun i => bs.getD i false) = bs.all id
  | [] => rfl
  | b :: bs => by
    rw [List.length_cons, List.range_succ_eq_map, List.all_cons, List.all_map, List.all_cons, ← all_range bs]
    all_goals rfl
section
variable {X : Cx}
def rAny (K : PySem.W.Frag) : List V → Hp → VK → Prop := fun vs H Q => ∃ (a : Addr) (bs : List Bool), vs = [V.ref a] ∧ SqL K H a (bs.map V.bl) ∧ Q (.bl (bs.any id)) H
def rAll (K : PySem.W.Frag) : List V → Hp → VK → Prop := fun vs H Q => ∃ (a : Addr) (bs : List Bool), vs = [V.ref a] ∧ SqL K H a (bs.map V.bl) ∧ Q (.bl (bs.all id)) H
theorem cr_all (hc : X.calm = true) : CallR X (.builtin "all") (rAll X.K) := by
  intro pins s σ H vs us Q I r h
  obtain ⟨a, bs, rfl, hs, q⟩ := h
  obtain ⟨its, rv, hl, _⟩ := I.list hs
  rw [Vals.ref1 r]
  have hb := rv.bls
  refine call_all_walk (iter_any hl.isList fun s₂ e2 st hne => ?_)
  subst e2
  refine ⟨_, _, _, _, _, _, _, rfl, Walks.list (A := X.A.in1) (I.ok.hd hc) _ a hne its.toArray, st, truth_bools hb, fun h' tk hk => ?_⟩
  refine ⟨.bl _, H, I.kept fun b o eo => hk b o (fun hmem => ?_) (Heap.get?_push_of_some _ eo), ?_, q⟩
  · rcases List.mem_cons.mp hmem with e1 | hmem
    · exact absurd (e1 ▸ Heap.lt_size eo) (Nat.lt_irrefl _)
    · cases hmem
  · show Value.bool _ = Value.bool _
    rw [← all_range, hb, List.size_toArray, List.length_map]
end
/-! ### == and != of data at any depth: none, bools, ints, texts, lists, tuples -/
mutual
inductive Dp (K : PySem.W.Frag) (H : Hp) : V → PyData → Prop
  | non : Dp K H .non .none
  | bl (b : Bool) : Dp K H (.bl b) (.bool b)
  | int (i : Int) : Dp K H (.int i) (.int i)
  | str (x : Str) : Dp K H (.str x) (.str x)
  | lst {a : Addr} {xs : List V} {ds : List PyData} : SqL K H a xs → DpAll K H xs ds → Dp K H (.ref a) (.list ds)
  | tup {a : Addr} {xs : List V} {ds : List PyData} : SqT K H a xs → DpAll K H xs ds → Dp K H (.ref a) (.tuple ds)
inductive DpAll (K : PySem.W.Frag) (H : Hp) : List V → List PyData → Prop
  | nil : DpAll K H [] []
  | cons {v : V} {vs : List V} {d : PyData} {ds : List PyData} : Dp K H v d → DpAll K H vs ds → DpAll K H (v :: vs) (d :: ds)
end
section
variable {X : Cx} {pins : List (Addr × Obj)} {σ : St} {H : Hp} {s : Shared}
mutual
theorem Dp.reads (I : Inv X pins σ H s) : ∀ (d : PyData) (v : V) (u : Value), Dp X.K H v d → RelV v u → ∃ as, Reads s.heap u d as
  | .none, _, _, h, r => by
    cases h
    cases r
    exact ⟨_, Reads.none⟩
  | .bool b, _, _, h, r => by
    cases h
    cases r
    exact ⟨_, Reads.bool b⟩
  | .int i, _, _, h, r => by
    cases h
    obtain ⟨t, rfl⟩ := r
    exact ⟨_, Reads.int i t⟩
  | .str x, _, _, h, r => by
    cases h
    obtain ⟨t, rfl⟩ := r
    exact ⟨_, Reads.str x t⟩
  | .list ds, _, _, h, r => by
    cases h with
    | lst hs ha =>
      cases r
      obtain ⟨its, rv, ⟨o, n, ho, hc, _, hd⟩, _⟩ := I.list hs
      obtain ⟨as, hr⟩ := Dp.readsAll I ds _ its ha rv
      exact ⟨_, Reads.list ho hc hd hr⟩
  | .tuple ds, _, _, h, r => by
    cases h with
    | tup hs ha =>
      cases r
      obtain ⟨its, rv, ⟨o, ho, hc, n, hd⟩, _⟩ := I.tuple hs
      obtain ⟨as, hr⟩ := Dp.readsAll I ds _ its ha rv
      exact ⟨_, Reads.tuple ho hc hd hr⟩
  | .dict _, _, _, h, _ => by cases h
theorem Dp.readsAll (I : Inv X pins σ H s) : ∀ (ds : List PyData) (vs : List V) (us : List Value), DpAll X.K H vs ds → Vals vs us → ∃ as, ReadsAll s.heap us ds as
  | [], _, _, h, r => by
    cases h
    cases r
    exact ⟨_, ReadsAll.nil⟩
  | d :: ds, _, _, h, r => by
    cases h with
    | cons h1 h2 =>
      cases r with
      | cons r1 r2 =>
        obtain ⟨as, q1⟩ := Dp.reads I d _ _ h1 r1
        obtain ⟨bs, q2⟩ := Dp.readsAll I ds _ _ h2 r2
        exact ⟨_, ReadsAll.cons q1 q2⟩
end
end
section
variable {X : Cx}
def rEqD (K : PySem.W.Frag) : R2 := fun x y H Q => ∃ d e, Dp K H x d ∧ Dp K H y e ∧ SeqAt.shaped d = true ∧ SeqAt.shaped e = true ∧ Q (.bl (PyData.eqv d e)) H
def rNeD (K : PySem.W.Frag) : R2 := fun x y H Q => ∃ d e, Dp K H x d ∧ Dp K H y e ∧ SeqAt.shaped d = true ∧ SeqAt.shaped e = true ∧ Q (.bl (!PyData.eqv d e)) H
theorem op_eqD (hu : X.A.units + 64 < cLine) : OpR X (compareOp .Eq) (rEqD X.K) := by
  intro pins s σ H x y v u Q I rx ry h
  obtain ⟨d, e, hd, he, sd, se, q⟩ := h
  obtain ⟨as, r1⟩ := Dp.reads I d x v hd rx
  obtain ⟨bs, r2⟩ := Dp.reads I e y u he ry
  exact SeqAt.compareEq_shaped r1 r2 sd se hu ⟨.bl _, H, I, rfl, q⟩
end
end L2
namespace L2
open PySem PySem.Spec PyProof.Rows
abbrev CellAt (h : Heap) (c : Addr) (v : Option Value) : Prop := h.IsCell c v
def relS (scope sc : Scope) : Scope :=
  { scope with names := scope.names.map fun (n, k) => if (k == .free && sc.kind == .function && sc.names.lookup n == some .cell) then (n, .cell) else (n, k) }
def cloFrom (cells : List (Str × Addr)) : List (Str × NameKind) → List (Str × Addr) → List (Str × Addr)
  | [], acc => acc
  | (n, k) :: r, acc => if k == .free then cloFrom cells r ((n, (cells.lookup n).getD 0) :: acc) else cloFrom cells r acc
theorem closure_loop (env : Env) (f : Str × NameKind → List (Str × Addr) → Sem (ForInStep (List (Str × Addr))))
    (hf : ∀ n k c, f (n, k) c = if k == .free then (do let a ← cellOf env n; pure (.yield ((n, a) :: c))) else pure (.yield c)) :
    ∀ (names : List (Str × NameKind)) (acc : List (Str × Addr)), (∀ y ∈ names, y.2 = .free → ∃ c, env.cells.lookup y.1 = some c) → forIn names acc f = pure (cloFrom env.cells names acc)
  | [], acc, _ => by rw [List.forIn_nil]; rfl
  | (n, k) :: r, acc, h => by
    rw [List.forIn_cons, hf]
    have ih := fun acc => closure_loop env f hf r acc fun y hy => h y (List.mem_cons_of_mem _ hy)
    unfold cloFrom
    by_cases hk : (k == NameKind.free) = true
    · rw [if_pos hk, if_pos hk]
      obtain ⟨c, hc⟩ := h (n, k) List.mem_cons_self (by simpa using hk)
      have e : cellOf env n = pure c := by unfold cellOf; rw [hc]
      rw [e]
      have e2 : (env.cells.lookup n).getD 0 = c := by rw [hc]; rfl
      rw [e2]
      exact ih _
    · rw [if_neg hk, if_neg hk]
      exact ih _
theorem closure_ok {scope : Scope} {env : Env} (h : ∀ y ∈ scope.names, y.2 = .free → ∃ c, env.cells.lookup y.1 = some c) : closureFor scope env = pure (cloFrom env.cells scope.names []) := by
  simp only [closureFor]
  rw [closure_loop env _ (fun n k c => rfl) scope.names [] h]
  rfl
theorem mem_lookup {α : Type} : ∀ {l : List (Str × α)} {n : Str} {c : α}, (n, c) ∈ l → ∃ c', l.lookup n = some c'
  | (k, v) :: r, n, c, h => by
    rw [List.lookup_cons]
    cases hb : n == k with
    | true => exact ⟨_, rfl⟩
    | false =>
      rcases List.mem_cons.mp h with e | h
      · cases e; simp at hb
      · exact mem_lookup h
theorem cloFrom_mem {cells : List (Str × Addr)} : ∀ {names : List (Str × NameKind)} {acc : List (Str × Addr)} {n : Str} {c : Addr}, (n, c) ∈ cloFrom cells names acc → (n, c) ∈ acc ∨ ((n, .free) ∈ names ∧ c = (cells.lookup n).getD 0)
  | [], _, _, _, h => .inl h
  | (m, k) :: r, acc, n, c, h => by
    unfold cloFrom at h
    split at h
    · rename_i hk
      have hk : k = .free := by simpa using hk
      rcases cloFrom_mem h with h | ⟨h1, h2⟩
      · rcases List.mem_cons.mp h with e | h
        · cases e; exact .inr ⟨hk ▸ List.mem_cons_self, rfl⟩
        · exact .inl h
      · exact .inr ⟨List.mem_cons_of_mem _ h1, h2⟩
    · rcases cloFrom_mem h with h | ⟨h1, h2⟩
      · exact .inl h
      · exact .inr ⟨List.mem_cons_of_mem _ h1, h2⟩
theorem cloFrom_acc {cells : List (Str × Addr)} : ∀ {names : List (Str × NameKind)} {acc : List (Str × Addr)} {p : Str × Addr}, p ∈ acc → p ∈ cloFrom cells names acc
  | [], _, _, h => h
  | (m, k) :: r, acc, p, h => by
    unfold cloFrom
    split
    · exact cloFrom_acc (List.mem_cons_of_mem _ h)
    · exact cloFrom_acc h
theorem cloFrom_has {cells : List (Str × Addr)} : ∀ {names : List (Str × NameKind)} {acc : List (Str × Addr)} {n : Str}, (n, .free) ∈ names → (n, (cells.lookup n).getD 0) ∈ cloFrom cells names acc
  | (m, k) :: r, acc, n, h => by
    unfold cloFrom
    rcases List.mem_cons.mp h with e | h
    · cases e
      exact cloFrom_acc List.mem_cons_self
    · split
      · exact cloFrom_has h
      · exact cloFrom_has h
theorem cells_mem : ∀ {names : List (Str × NameKind)} {h : Heap} {acc : List (Str × Addr)} {x : Str} {c : Addr}, (x, c) ∈ cellsFrom h.objs.size names acc →
    (x, c) ∈ acc ∨ ((x, .cell) ∈ names ∧ h.objs.size ≤ c ∧ CellAt (pushCells h names) c none)
  | [], _, _, _, _, h => .inl h
  | (n, k) :: r, h, acc, x, c, hm => by
    unfold cellsFrom at hm
    unfold pushCells
    split at hm
    · rename_i hk
      rw [if_pos hk]
      have hk : k = .cell := by simpa using hk
      rw [← Heap.size_push h { cls := .type "cell", data := .cell none }] at hm
      rcases cells_mem hm with hm | ⟨h1, h2, h3⟩
      · rcases List.mem_cons.mp hm with e | hm
        · cases e
          exact .inr ⟨hk ▸ List.mem_cons_self, Nat.le_refl _, _, pushCells_keeps r _ _ _ (Heap.get?_push_size _ rfl), rfl⟩
        · exact .inl hm
      · rw [Heap.size_push] at h2
        exact .inr ⟨List.mem_cons_of_mem _ h1, Nat.le_of_succ_le h2, h3⟩
    · rename_i hk
      rw [if_neg hk]
      rcases cells_mem hm with hm | ⟨h1, h2, h3⟩
      · exact .inl hm
      · exact .inr ⟨List.mem_cons_of_mem _ h1, h2, h3⟩
theorem cells_acc : ∀ {names : List (Str × NameKind)} {n : Nat} {acc : List (Str × Addr)} {p : Str × Addr}, p ∈ acc → p ∈ cellsFrom n names acc
  | [], _, _, _, h => h
  | (m, k) :: r, n, acc, p, h => by
    unfold cellsFrom
    split
    · exact cells_acc (List.mem_cons_of_mem _ h)
    · exact cells_acc h
theorem cells_has : ∀ {names : List (Str × NameKind)} {n : Nat} {acc : List (Str × Addr)} {x : Str}, (x, .cell) ∈ names → ∃ c, (x, c) ∈ cellsFrom n names acc
  | (m, k) :: r, n, acc, x, h => by
    unfold cellsFrom
    rcases List.mem_cons.mp h with e | h
    · cases e
      exact ⟨n, cells_acc List.mem_cons_self⟩
    · split
      · exact cells_has h
      · exact cells_has h
theorem cells_inj : ∀ {names : List (Str × NameKind)} {h : Heap} {acc : List (Str × Addr)} {x y : Str} {c : Addr}, (∀ p ∈ acc, p.2 < h.objs.size) → (∀ x y c, (x, c) ∈ acc → (y, c) ∈ acc → x = y) →
    (x, c) ∈ cellsFrom h.objs.size names acc → (y, c) ∈ cellsFrom h.objs.size names acc → x = y
  | [], _, _, _, _, _, _, hi, h1, h2 => hi _ _ _ h1 h2
  | (n, k) :: r, h, acc, x, y, c, hl, hi, h1, h2 => by
    unfold cellsFrom at h1 h2
    split at h1
    · rename_i hk
      rw [if_pos hk] at h2
      rw [← Heap.size_push h { cls := .type "cell", data := .cell none }] at h1 h2
      refine cells_inj (h := h.push _) (fun p hp => ?_) (fun x y c a b => ?_) h1 h2
      · rw [Heap.size_push]
        rcases List.mem_cons.mp hp with rfl | hp
        · exact Nat.lt_succ_self _
        · exact Nat.lt_succ_of_lt (hl p hp)
      · rcases List.mem_cons.mp a with e | a <;> rcases List.mem_cons.mp b with e' | b
        · cases e; cases e'; rfl
        · cases e; exact absurd (hl _ b) (Nat.lt_irrefl _)
        · cases e'; exact absurd (hl _ a) (Nat.lt_irrefl _)
        · exact hi _ _ _ a b
    · rename_i hk
      rw [if_neg hk] at h2
      exact cells_inj hl hi h1 h2
theorem newEnv_comp {M : Model} {A : Around} {E : Value → Shared → Prop} {s : Shared} {scope : Scope} {globals : Addr} {closure : List (Str × Addr)} {qual : Str} {func : Option Addr} {code : Value} {around : Env} {builtins : Addr} {Q : Env → Shared → Prop}
    (h : Q (newEnv scope s.heap.objs.size globals (cellsFrom (s.heap.objs.size + 1) scope.names closure) qual func code (some around) builtins)
      { s with heap := pushCells (s.heap.push { cls := .type "dict", data := .dict #[] }) scope.names }) :
    wpAny M A (newFunctionEnv scope globals closure [] qual func code (some around) builtins) Q E s := by
  simp only [newFunctionEnv, Option.isSome_some, if_true]
  refine wpAny_bind (wpAny_alloc ?_)
  refine wpAny_bind (wpAny_layCells _ (fun n k c => rfl) scope.names closure _ _ ?_)
  rw [show ({ s with heap := s.heap.push { cls := .type "dict", data := .dict #[] } } : Shared).heap.objs.size = s.heap.objs.size + 1 from Heap.size_push ..]
  rw [List.forIn_nil]
  exact wpAny_bind (wpAny_pure (wpAny_pure h))
/-- every name of the written scope, in the scope that runs -/
theorem lookup_relS {sc : Scope} : ∀ {names : List (Str × NameKind)} {x : Str} {k : NameKind},
    (names.map fun (n, k) => if (k == NameKind.free && sc.kind == .function && sc.names.lookup n == some .cell) then (n, NameKind.cell) else (n, k)).lookup x = some k →
    ∃ k', names.lookup x = some k' ∧ (k = k' ∨ (k' = .free ∧ k = .cell))
  | [], _, _, h => by simp at h
  | (n, k₀) :: r, x, k, h => by
    have ih := @lookup_relS sc r x k
    have h' : List.lookup x ((if (k₀ == NameKind.free && sc.kind == .function && sc.names.lookup n == some .cell) = true then (n, NameKind.cell) else (n, k₀)) :: (r.map _)) = some k := h
    cases hx : x == n with
    | true =>
      simp only [List.lookup_cons, hx]
      by_cases hc : (k₀ == NameKind.free && sc.kind == .function && sc.names.lookup n == some .cell) = true
      · rw [if_pos hc] at h'
        simp only [List.lookup_cons, hx] at h'
        cases h'
        simp only [Bool.and_eq_true, beq_iff_eq] at hc
        exact ⟨k₀, rfl, .inr ⟨hc.1.1, rfl⟩⟩
      · rw [if_neg hc] at h'
        simp only [List.lookup_cons, hx] at h'
        cases h'
        exact ⟨_, rfl, .inl rfl⟩
    | false =>
      simp only [List.lookup_cons, hx]
      by_cases hc : (k₀ == NameKind.free && sc.kind == .function && sc.names.lookup n == some .cell) = true
      · rw [if_pos hc] at h'
        simp only [List.lookup_cons, hx] at h'
        exact ih h'
      · rw [if_neg hc] at h'
        simp only [List.lookup_cons, hx] at h'
        exact ih h'
/-- the names of a comprehension's block: its own (with their places in N), or captured -/
structure BlkOk (N : List Str) (sc scope : Scope) (own : List (Str × Nat)) : Prop where
  kind : scope.kind = .function
  uniq : ∀ y ∈ scope.names, scope.names.lookup y.1 = some y.2
  ix : ∀ p ∈ own, N[p.2]? = some p.1
  free : ∀ y ∈ scope.names, y.2 = .free → sc.names.lookup y.1 = some .cell ∨ sc.names.lookup y.1 = some .free
  own : ∀ y ∈ scope.names, y.2 = .local ∨ y.2 = .cell → y.1 ∈ own.map (·.1) ∨ y.1 ∉ N
/-- the slots of the block's own names forgotten -/
def wipe (σ : St) : List Nat → St
  | [] => σ
  | v :: vs => (wipe σ vs).set v none
theorem wipe_length (σ : St) : ∀ vs : List Nat, (wipe σ vs).length = σ.length
  | [] => rfl
  | v :: vs => by unfold wipe; rw [List.length_set, wipe_length σ vs]
theorem wipe_some {σ : St} {i : Nat} {x : V} : ∀ {vs : List Nat}, (wipe σ vs)[i]? = some (some x) → σ[i]? = some (some x) ∧ i ∉ vs
  | [], h => ⟨h, by simp⟩
  | v :: vs, h => by
    unfold wipe at h
    by_cases hi : v = i
    · subst hi
      by_cases hv : v < (wipe σ vs).length
      · rw [List.getElem?_set_self hv] at h; cases h
      · rw [List.getElem?_eq_none (by simpa using hv)] at h; cases h
    · rw [List.getElem?_set_ne hi] at h
      obtain ⟨h1, h2⟩ := wipe_some h
      exact ⟨h1, by simp only [List.mem_cons, not_or]; exact ⟨fun e => hi e.symm, h2⟩⟩
/-- the context of a block that starts at s, its iterator's objects at fp -/
abbrev Cx.blk (X : Cx) (s : Shared) (H : Hp) (scope : Scope) (cenv : Env) (fp : List Addr) : Cx := { X with s_0 := s, H_0 := H, env := cenv, outer := X.stack, ex := fp, fn := fun x => scope.names.lookup x == some .cell, pn := [], xe := fun _ _ => False }
section
variable {X : Cx} {pins : List (Addr × Obj)} {σ : St} {H : Hp} {s : Shared}
theorem block_start {scope : Scope} {own : List (Str × Nat)} {fp : List Addr} (I : Inv X pins σ H s) (ok : BlkOk X.N X.env.scope scope own) (hN : X.N.Nodup) (hfp : ∀ b ∈ fp, FpOk X pins H b ∧ b < s.heap.objs.size) :
    Inv (X.blk s H scope (compEnvC scope (cellsFrom (s.heap.objs.size + 1) scope.names (cloFrom X.env.cells scope.names [])) s.heap.objs.size X.env) fp) [] (wipe σ (own.map (·.2))) H { s with heap := pushCells (s.heap.push { cls := .type "dict", data := .dict #[] }) scope.names } := by
  have hfree : ∀ y ∈ scope.names, y.2 = .free → ∃ c, X.env.cells.lookup y.1 = some c := fun y hy e => by
    rcases ok.free y hy e with k | k
    · exact I.ok.has _ (.inl k)
    · exact I.ok.has _ (.inr k)
  generalize hcenv : compEnvC scope (cellsFrom (s.heap.objs.size + 1) scope.names (cloFrom X.env.cells scope.names [])) s.heap.objs.size X.env = cenv
  have kp : ∀ b o, s.heap.get? b = some o → (pushCells (s.heap.push { cls := .type "dict", data := .dict #[] }) scope.names).get? b = some o := fun b o e => pushCells_keeps _ _ _ _ (Heap.get?_push_of_some _ e)
  have hL : cenv.locals = s.heap.objs.size := by rw [← hcenv]; rfl
  have hcl : cenv.cells = cellsFrom (s.heap.objs.size + 1) scope.names (cloFrom X.env.cells scope.names []) := by rw [← hcenv]; rfl
  have hsc : cenv.scope = relS scope X.env.scope := by rw [← hcenv]; rfl
  rw [← Heap.size_push s.heap { cls := .type "dict", data := .dict #[] }] at hcl
  have cm : ∀ {y c}, (y, c) ∈ cloFrom X.env.cells scope.names [] → X.env.cells.lookup y = some c ∧ c < s.heap.objs.size := fun {y c} hm => by
    rcases cloFrom_mem hm with hm | ⟨h1, rfl⟩
    · cases hm
    · obtain ⟨c, hc⟩ := hfree _ h1 rfl
      rw [hc]
      obtain ⟨w, z⟩ := I.cell _ _ hc
      exact ⟨rfl, z.lt⟩
  have mem : ∀ {y c}, cenv.cells.lookup y = some c → (X.env.cells.lookup y = some c ∧ c < s.heap.objs.size) ∨ (s.heap.objs.size + 1 ≤ c ∧ CellAt (pushCells (s.heap.push { cls := .type "dict", data := .dict #[] }) scope.names) c none) := fun {y c} e => by
    rw [hcl] at e
    rcases cells_mem (PySem.mem_of_lookup e) with hm | ⟨_, h2, h3⟩
    · exact .inl (cm hm)
    · rw [Heap.size_push] at h2; exact .inr ⟨h2, h3⟩
  have look : ∀ {y}, scope.names.lookup y = some .free → ∃ c, cenv.cells.lookup y = some c ∧ X.env.cells.lookup y = some c := fun {y} hl => by
    have hy : (y, NameKind.free) ∈ scope.names := PySem.mem_of_lookup hl
    obtain ⟨c', e'⟩ := mem_lookup (cells_acc (names := scope.names) (n := (s.heap.push { cls := .type "dict", data := .dict #[] }).objs.size) (cloFrom_has (cells := X.env.cells) (acc := []) hy))
    rw [← hcl] at e'
    refine ⟨c', e', ?_⟩
    rw [hcl] at e'
    rcases cells_mem (PySem.mem_of_lookup e') with hm | ⟨h1, _, _⟩
    · exact (cm hm).1
    · have := ok.uniq _ h1
      rw [hl] at this; cases this
  have okB : (X.blk s H scope cenv fp).Ok := by
    refine ⟨I.ok.mod, by show cenv.scope.kind = _; rw [hsc]; exact ok.kind, by show cenv.globals = _; rw [← hcenv]; exact I.ok.glob, by show cenv.builtins = _; rw [← hcenv]; exact I.ok.blt, by show s.heap.objs.size ≤ cenv.locals; rw [hL]; exact Nat.le_refl _,
      fun y z c e1 e2 => ?_, fun y hy => ?_, fun y c z e => ?_, I.ok.hd, I.ok.frames, .inl rfl, fun b hb => ⟨?_, fun y c e z => ?_⟩, I.bs, Nat.le_trans I.ok.bsz I.sz, fun b o e hb => ?_, fun b hb z => ?_, I.stack, I.stkFree⟩
    · have e1 : cenv.cells.lookup y = some c := e1
      have e2 : cenv.cells.lookup z = some c := e2
      rw [hcl] at e1 e2
      refine cells_inj (fun p hp => ?_) (fun y z c a b => I.ok.inj y z c (cm a).1 (cm b).1) (PySem.mem_of_lookup e1) (PySem.mem_of_lookup e2)
      rw [Heap.size_push]
      exact Nat.lt_succ_of_lt (cm (y := p.1) (c := p.2) hp).2
    · show ∃ c, cenv.cells.lookup y = some c
      have key : ∀ k, cenv.kindOf y = some k → (k = .cell ∨ k = .free) → ∃ c, cenv.cells.lookup y = some c := fun k hk hk' => by
        unfold Env.kindOf at hk
        rw [hsc] at hk
        obtain ⟨k', e, r⟩ := lookup_relS hk
        have : k' = .cell ∨ k' = .free := by
          rcases r with rfl | ⟨rfl, _⟩
          · exact hk'
          · exact .inr rfl
        rcases this with rfl | rfl
        · obtain ⟨c, hm⟩ := cells_has (n := (s.heap.push { cls := .type "dict", data := .dict #[] }).objs.size) (acc := cloFrom X.env.cells scope.names []) (PySem.mem_of_lookup e)
          obtain ⟨c', e'⟩ := mem_lookup hm
          exact ⟨c', by rw [hcl]; exact e'⟩
        · obtain ⟨c, h1, _⟩ := look e
          exact ⟨c, h1⟩
      rcases hy with hy | hy
      · exact key _ hy (.inl rfl)
      · exact key _ hy (.inr rfl)
    · have z : (scope.names.lookup y == some NameKind.cell) = true := z
      have z : scope.names.lookup y = some .cell := by simpa using z
      have e : cenv.cells.lookup y = some c := e
      rw [hcl] at e
      rcases cells_mem (PySem.mem_of_lookup e) with hm | ⟨_, h2, _⟩
      · rcases cloFrom_mem hm with hm | ⟨h1, _⟩
        · cases hm
        · have q := ok.uniq _ h1
          rw [z] at q; cases q
      · rw [Heap.size_push] at h2
        exact Nat.le_of_succ_le h2
    · show b ≠ cenv.locals
      rw [hL]; exact Nat.ne_of_lt (hfp b hb).2
    · have e : cenv.cells.lookup y = some c := e
      rcases mem e with ⟨h1, _⟩ | ⟨h1, _⟩
      · exact (hfp b hb).1.2.2.2.2.1 y c h1 z
      · have h2 : s.heap.objs.size + 1 ≤ b := by rw [← z]; exact h1
        exact absurd (Nat.lt_of_lt_of_le (hfp b hb).2 (Nat.le_of_succ_le h2)) (Nat.lt_irrefl _)
    · rcases (hfp b hb).1.2.2.2.1 with z | z
      · exact I.ok.noex b o e z
      · exact absurd (Nat.lt_of_lt_of_le (Heap.lt_size e) (Nat.le_trans I.ok.bsz z)) (Nat.lt_irrefl _)
    · rcases List.mem_cons.mp (I.stkSub b z) with z | z
      · exact (hfp b hb).1.2.1 z
      · exact (hfp b hb).1.2.2.1 z
  refine ⟨okB, rfl, I.bare, Un.kept kp, ⟨fun _ => none, ?_, fun i y av e1 e2 e3 => ?_⟩, fun y c e => ?_, ?_, fun y c e => ?_, fun p hp => ?_, I.hok.kept kp, by rw [wipe_length]; exact I.len⟩
  · show Heap.Ns _ cenv.locals _
    rw [hL]
    exact Heap.Ns.keeps (Heap.Ns.new ..) fun b o e => pushCells_keeps _ _ _ _ e
  · obtain ⟨e2, hne⟩ := wipe_some e2
    have hfr : scope.names.lookup y = some .free ∧ (cenv.kindOf y = some .cell ∨ cenv.kindOf y = some .free) := by
      have key : ∀ k, cenv.scope.names.lookup y = some k → k = .local ∨ k = .cell ∨ k = .free → scope.names.lookup y = some .free ∧ (cenv.kindOf y = some .cell ∨ cenv.kindOf y = some .free) := fun k hk hk' => by
        have hk0 := hk
        rw [hsc] at hk
        obtain ⟨k', e, r⟩ := lookup_relS hk
        have no : ¬ (k' = .local ∨ k' = .cell) := fun hh => by
          rcases ok.own _ (PySem.mem_of_lookup e) hh with e' | e'
          · obtain ⟨p, hp, hpy⟩ := List.mem_map.mp e'
            have e3 := ok.ix p hp
            have : p.1 = y := hpy
            rw [this] at e3
            exact hne (List.mem_map.mpr ⟨p, hp, nodup_ix hN e3 e1⟩)
          · exact e' (List.mem_of_getElem? e1)
        rcases r with rfl | ⟨rfl, rfl⟩
        · rcases hk' with rfl | rfl | rfl
          · exact absurd (.inl rfl) no
          · exact absurd (.inr rfl) no
          · exact ⟨e, .inr hk0⟩
        · exact ⟨e, .inl hk0⟩
      have e3 : Vis cenv.scope y := e3
      rcases e3 with e3 | e3 | e3
      · exact key _ e3 (.inl rfl)
      · exact key _ e3 (.inr (.inl rfl))
      · exact key _ e3 (.inr (.inr rfl))
    obtain ⟨m, hn, hl⟩ := I.loc
    have hvis : Vis X.env.scope y := (ok.free _ (PySem.mem_of_lookup hfr.1) rfl).elim (fun k => .inr (.inl k)) (fun k => .inr (.inr k))
    obtain ⟨w, r, q⟩ := hl i y av e1 e2 hvis
    refine ⟨w, r, .inr ⟨hfr.2, ?_⟩⟩
    obtain ⟨c, h1, h2⟩ := look hfr.1
    rcases q with ⟨k, _⟩ | ⟨_, c', e', z⟩
    · have k : X.env.scope.names.lookup y = some .local := k
      rcases ok.free _ (PySem.mem_of_lookup hfr.1) rfl with k' | k' <;> rw [show X.env.scope.names.lookup y = _ from k'] at k <;> cases k
    · rw [h2] at e'; cases e'
      exact ⟨c, h1, z.keeps kp⟩
  · have e : cenv.cells.lookup y = some c := e
    rcases mem e with ⟨h1, _⟩ | ⟨_, z⟩
    · obtain ⟨w, z⟩ := I.cell y c h1
      exact ⟨w, z.keeps kp⟩
    · exact ⟨_, z⟩
  · show H cenv.locals = none
    rw [hL]; exact I.hok.fresh (Nat.le_refl _)
  · have e : cenv.cells.lookup y = some c := e
    rcases mem e with ⟨h1, _⟩ | ⟨h1, _⟩
    · exact I.freeC y c h1
    · exact I.hok.fresh (Nat.le_of_succ_le h1)
  · exact absurd (show p ∈ ([] : List (Addr × Obj)) ++ [] from hp) (by simp)
/-- an item appended to a tracked list -/
theorem app_ok {E : Value → Shared → Prop} {D : Addr} {xs : List V} {y : V} {v : Value} {Q : Value → Shared → Prop} (I : Inv X pins σ H s) (hD : H D = some (.lst xs)) (hz : xs.length < sizeLine) (r : RelV y v)
    (h : ∀ s', Inv X pins σ (upd H D (.lst (xs ++ [y]))) s' → Q .none s') : wpAny (model X.prog X.w) X.A (call (.builtin "list.append") [.ref D, v]) Q E s := by
  obtain ⟨hz', its, n, ri, e⟩ := I.hok D _ hD
  have hl := ri.length
  refine append_at (hsz := by rw [List.size_toArray]; omega) e fun h' sb ho' => ?_
  refine h { s with heap := h' } (I.write (t' := s.toks) (by rw [hD]; trivial) (.inl rfl) (fun b u hb q => (sb.2 b hb).trans q) ⟨_, ho'⟩ ⟨by rw [List.length_append]; exact hz, its ++ [v], n + 1, ri.append (.cons r .nil), ?_⟩)
  rw [ho']
  simp
/-- a clause's tests -/
def PTs (X : Cx) (ifs : List Expr) (t : TT) : Prop :=
  ∀ (pins : List (Addr × Obj)) (s : Shared) (σ : St) (H : Hp) (Q : Bool → Hp → Prop), Inv X pins σ H s → t σ H Q →
    wpAny (model X.prog X.w) X.A (forIn ifs true fun c r => if r = true then do let ok ← isTrue c X.env (eval c X.env); pure (ForInStep.yield ok) else pure (ForInStep.yield r)) (TP X pins σ Q) X.xe s
def tYes : TT := fun _ H Q => Q true H
theorem pts_nil : PTs X [] tYes := fun _ _ _ H _ I h => wpAny_tests_nil ⟨H, I, h⟩
theorem pts_one {c : Expr} {t : TT} (h : PT X c t) : PTs X [c] t := fun pins s σ H Q I hw => wpAny_tests_one (h pins s σ H Q I hw)
end
theorem thnF {α : Type} {t : Sem α} {Q Q' : α → Shared → Prop} {M : Model} {A : Around} {E : Value → Shared → Prop} {s : Shared} (h : wpAny M A t Q (fun _ _ => False) s) (hQ : ∀ a s, Q a s → Q' a s) : wpAny M A t Q' E s := wpAny_mono h hQ fun _ _ z => False.elim z
/-- the loop of a list comprehension's block, the target of any form (codeAny_compLoop_tests asks a target that no tuple goes to; statement and proof follow it, PyProof/CompMap.lean:41-61, with the step letOwnedTupleGo kept) -/
theorem compLoop_any {prog : Program} {w : World} {A : Around} {R : Result → Shared → Prop} {s : Shared} {elt target iter : Expr} {ifs : List Expr} {scope : Scope} {pos : Pos} {it acc : Value} {env : Env} (I : Nat → Shared → Prop)
    (turn : ∀ n s, I n s → wpAny (model prog w) A (pyNext it) (fun r s₁ => match r with
      | none => R (.ok .next) s₁
      | some v => wpAny (model prog w) A (letOwnedTupleGo target it v) (fun _ s₁' => wpAny (model prog w) A (assign target env v) (fun _ s₂ =>
          wpAny (model prog w) A (forIn ifs true fun c r => if r = true then do let ok ← isTrue c env (eval c env); pure (ForInStep.yield ok) else pure (ForInStep.yield r)) (fun ok s₃ =>
            if ok = true then wpAny (model prog w) A (eval elt env) (fun x s₄ =>
              wpAny (model prog w) A (call (.builtin "list.append") [acc, x]) (fun _ s₅ => ∃ m, m < n ∧ I m s₅) (notedBy (model prog w) A env fun e s' => R (.error e) s') s₄) (notedBy (model prog w) A env fun e s' => R (.error e) s') s₃
            else ∃ m, m < n ∧ I m s₃) (notedBy (model prog w) A env fun e s' => R (.error e) s') s₂) (notedBy (model prog w) A env fun e s' => R (.error e) s') s₁') (notedBy (model prog w) A env fun e s' => R (.error e) s') s₁) (notedBy (model prog w) A env fun e s' => R (.error e) s') s)
    (n : Nat) (h : I n s) :
    codeAny (model prog w) A (.compLoop (.ListComp elt [⟨target, iter, ifs, 0⟩] scope pos) 0 it acc env) R s := by
  refine codeAny_loop rfl I (fun n s hI => ?_) n h
  show wpAny _ A ((compTurn (.ListComp elt [⟨target, iter, ifs, 0⟩] scope pos) 0 it acc env).onRaise (fun x => do noteFrame x env; theTreesLotGoes x)) _ _ s
  refine wpAny_noted ?_
  rw [compTurn_list]
  refine wpAny_bind (wpAny_standAt (wpAny_bind (wpAny_mono (turn n s hI) (fun r s₁ h₁ => ?_) fun _ _ h' => h')))
  cases r with
  | none => exact wpAny_pure h₁
  | some v =>
    refine wpAny_bind (wpAny_mono h₁ (fun _ s₁' h₁' => ?_) fun _ _ h' => h')
    refine wpAny_bind (wpAny_mono h₁' (fun _ s₂ h₂ => wpAny_bind (wpAny_mono h₂ (fun ok s₃ h₃ => ?_) fun _ _ h' => h')) fun _ _ h' => h')
    cases ok with
    | false => exact wpAny_pure ⟨rfl, h₃⟩
    | true =>
      exact wpAny_bind (wpAny_bind (wpAny_mono h₃ (fun x s₄ h₄ => wpAny_bind (wpAny_mono h₄ (fun _ s₅ h₅ => wpAny_pure (wpAny_pure ⟨rfl, h₅⟩)) fun _ _ h' => h')) fun _ _ h' => h'))
section
variable {X : Cx}
/-- [elt for target in iter if ..]: D the new list; W by the turn and a measure, Nx what a turn is to reach -/
def tLc (wi : TI) (g : TG) (tt : TT) (te : TE) (vs : List Nat) : TE := fun σ H Q => wi σ H fun J H1 => ∀ D, H1 D = none → ∃ W : Nat → Nat → Hp → Prop, (∃ m, W 0 m (upd H1 D (.lst []))) ∧ ∀ i m H, W i m H →
  (J.stop i H ∧ Q (.ref D) H) ∨ (J.go i H ∧ ∃ Nx : Hp → Prop, (∀ H', Nx H' → ∃ m', m' < m ∧ W (i + 1) m' H') ∧ ∀ x H', J.yld i H x H' → g x (wipe σ vs) H' fun σ2 H2 => wipe σ2 vs = wipe σ vs ∧ tt σ2 H2 fun b H3 =>
    if b = true then te σ2 H3 fun y H4 => ∃ acc, H4 D = some (.lst acc) ∧ acc.length < sizeLine ∧ Nx (upd H4 D (.lst (acc ++ [y]))) else Nx H3)
theorem lc_core {pins : List (Addr × Obj)} {s : Shared} {σ : St} {H : Hp} {Q : VK} {elt tg iter : Expr} {ifs : List Expr} {scope : Scope} {own : List (Str × Nat)} {pos pos' : Pos} {wi : TI} {g : TG} {tt : TT} {te : TE} {use : Option (Value → Sem Unit)} {Qf : Value → Shared → Prop}
    (hc : X.calm = true) (hN : X.N.Nodup) (I : Inv X pins σ H s) (hi : PI X tg iter wi) (ok : BlkOk X.N X.env.scope scope own)
    (hg : ∀ (s : Shared) (H : Hp) (C : Addr) (cl : List (Str × Addr)) (fp : List Addr), PG (X.blk s H scope (compEnvC scope cl C X.env) fp) tg g) (ht : ∀ (s : Shared) (H : Hp) (C : Addr) (cl : List (Str × Addr)) (fp : List Addr), PTs (X.blk s H scope (compEnvC scope cl C X.env) fp) ifs tt)
    (he : ∀ (s : Shared) (H : Hp) (C : Addr) (cl : List (Str × Addr)) (fp : List Addr), PE (X.blk s H scope (compEnvC scope cl C X.env) fp) elt te) (hs : ∀ x, foldedSetIterable iter X.env x = pure x)
    (h : tLc wi g tt te (own.map (·.2)) σ H Q)
    (hRR : ∀ D C s' m H', Inv X pins σ H' s' → Q (.ref D) H' → s'.heap.Ns C m → FpOk X pins H' C → compPost (model X.prog X.w) X.A X.xe use Qf (.ref D) C (.ok .next) s') :
    wpAny (model X.prog X.w) X.A (comprehension (.ListComp elt [⟨tg, iter, ifs, 0⟩] scope pos) scope X.env pos' (newList []) false (eval iter X.env) use) Qf X.xe s := by
  have hfree : ∀ y ∈ scope.names, y.2 = .free → ∃ c, X.env.cells.lookup y.1 = some c := fun y hy e => by
    rcases ok.free y hy e with k | k
    · exact I.ok.has _ (.inl k)
    · exact I.ok.has _ (.inr k)
  refine wpAny_comprehension_free (use := use) rfl hs (closure_ok hfree) ok.kind (fun y hy e => by rw [ok.uniq y hy, e])
    (thn (hi pins s σ H _ I h) fun xv s1 hx => thn hx fun itv s2 h2 => ?_)
  obtain ⟨it, fp, tn, J, H2, e, I2, T, st2, f2, q⟩ := h2
  subst e
  refine wpAny_newObj_type (newEnv_comp ?_) (by show 0 ≤ sizeLine; decide)
  generalize hD : s2.heap.objs.size = D
  have hDn : H2 D = none := I2.hok.fresh (Nat.le_of_eq hD)
  obtain ⟨W, ⟨m0, w0⟩, turn⟩ := q D hDn
  -- the new list
  generalize hs3 : ({ s2 with heap := s2.heap.push { cls := .type "list", data := .seq ([] : List Value).toArray } } : Shared) = s3
  have I3 : Inv X pins σ (upd H2 D (.lst [])) s3 := by
    rw [← hs3]
    refine I2.laid (t' := s2.toks) (fun b o e => Heap.get?_push_of_some _ e) (Nat.le_of_eq hD) ⟨Nat.zero_le _, [], 0, .nil, ?_⟩
    rw [← hD]
    exact Heap.get?_push_size _ rfl
  have h3 : s3.heap = s2.heap.push { cls := .type "list", data := .seq ([] : List Value).toArray } := by rw [← hs3]
  have sz : ∀ b ∈ fp, b < s2.heap.objs.size := fun b hb => by
    obtain ⟨o, e, _⟩ := T.obj _ _ st2 b hb
    exact Heap.lt_size e
  have f3 : ∀ b ∈ fp, FpOk X pins (upd H2 D (.lst [])) b ∧ b < s3.heap.objs.size := fun b hb => by
    have hlt := sz b hb
    refine ⟨⟨?_, (f2 b hb).2⟩, by rw [h3, Heap.size_push]; exact Nat.lt_succ_of_lt hlt⟩
    rw [upd_ne (by rw [← hD]; exact Nat.ne_of_lt hlt)]
    exact (f2 b hb).1
  have st3 : tn 0 s3.heap := T.keep _ _ _ st2 fun b _ o e => by rw [h3]; exact Heap.get?_push_of_some _ e
  have I4 := block_start I3 ok hN f3
  have pg := hg s3 (upd H2 D (.lst [])) s3.heap.objs.size (cellsFrom (s3.heap.objs.size + 1) scope.names (cloFrom X.env.cells scope.names [])) fp
  have pt := ht s3 (upd H2 D (.lst [])) s3.heap.objs.size (cellsFrom (s3.heap.objs.size + 1) scope.names (cloFrom X.env.cells scope.names [])) fp
  have pe := he s3 (upd H2 D (.lst [])) s3.heap.objs.size (cellsFrom (s3.heap.objs.size + 1) scope.names (cloFrom X.env.cells scope.names [])) fp
  show codeAny _ _ (.compStart (.ListComp elt [⟨tg, iter, ifs, 0⟩] scope pos) 0 (.ref it) (.ref D) (compEnvC scope (cellsFrom (s3.heap.objs.size + 1) scope.names (cloFrom X.env.cells scope.names [])) s3.heap.objs.size X.env)) (compPost (model X.prog X.w) X.A X.xe use Qf (.ref D) s3.heap.objs.size) { s3 with heap := pushCells (s3.heap.push { cls := .type "dict", data := .dict #[] }) scope.names }
  have nfp : ∀ b ∈ fp, (upd H2 D (.lst [])) b = none := fun b hb => (f3 b hb).1.1
  generalize hce : compEnvC scope (cellsFrom (s3.heap.objs.size + 1) scope.names (cloFrom X.env.cells scope.names [])) s3.heap.objs.size X.env = ce at I4 pg pt pe ⊢
  have cL : ce.locals = s3.heap.objs.size := by subst hce; rfl
  generalize hH3 : upd H2 D (.lst []) = H3 at I3 I4 pg pt pe w0 nfp f3
  generalize hs4 : ({ s3 with heap := pushCells (s3.heap.push { cls := .type "dict", data := .dict #[] }) scope.names } : Shared) = s4 at I4 ⊢
  have st4 : tn 0 s4.heap := T.keep _ _ _ st3 fun b _ o e => by rw [← hs4]; exact pushCells_keeps _ _ _ _ (Heap.get?_push_of_some _ e)
  have stat : ∀ {σ' : St} {H' : Hp} {s' : Shared}, Inv (X.blk s3 H3 scope ce fp) [] σ' H' s' → (∀ b ∈ fp, H' b = none) → ∀ b ∈ fp, FpOk (X.blk s3 H3 scope ce fp) [] H' b := fun {σ' H' s'} I' hn b hb =>
    ⟨hn b hb, (I'.ok.exf b hb).1, I'.ok.exfs b hb, .inl hb, fun x c e => (I'.ok.exf b hb).2 x c e, fun p hp => absurd (show p ∈ ([] : List (Addr × Obj)) ++ [] from hp) (by simp)⟩
  have loop : codeAny (model X.prog X.w) X.A (.compLoop (.ListComp elt [⟨tg, iter, ifs, 0⟩] scope pos) 0 (.ref it) (.ref D) ce) (compPost (model X.prog X.w) X.A X.xe use Qf (.ref D) s3.heap.objs.size) s4 := by
    refine compLoop_any (fun n s' => ∃ i H', Inv (X.blk s3 H3 scope ce fp) [] (wipe σ (own.map (·.2))) H' s' ∧ tn i s'.heap ∧ (∀ b ∈ fp, H' b = none) ∧ W i n H') ?_ m0 ⟨0, H3, I4, st4, nfp, w0⟩
    rintro n s5 ⟨i, H5, I5, st5, n5, w5⟩
    rcases turn i n H5 w5 with ⟨stop, qq⟩ | ⟨go, Nx, hNx, step⟩
    · have td := T.done (X.blk s3 H3 scope ce fp) rfl rfl rfl hc i [] s5 _ H5 (fun _ _ => False) I5 (stat I5 n5) st5 stop
      refine thnF td fun r s6 ⟨hr, I6⟩ => ?_
      subst hr
      -- back in the def's context
      have I7 : Inv X pins σ H5 s6 := I3.call' (ch := fp) I6.os I6.base I6.hok I6.bare fun b hb => ⟨(f3 b hb).1.2.2.2.1, (f3 b hb).1.2.1, (f3 b hb).1.2.2.2.2.1, (f3 b hb).1.2.2.2.2.2⟩
      have nC : H5 s3.heap.objs.size = none := by
        have z : H5 ce.locals = none := I6.free
        rw [cL] at z
        exact z
      obtain ⟨m, hn, _⟩ := I6.loc
      have hn : s6.heap.Ns ce.locals m := hn
      rw [cL] at hn
      exact hRR D s3.heap.objs.size s6 m H5 I7 qq hn (I3.fpOk (Nat.le_refl _) nC)
    · have ti := T.item (X.blk s3 H3 scope ce fp) rfl rfl rfl hc i [] s5 _ H5 (fun _ _ => False) I5 (stat I5 n5) st5 go
      refine thnF ti fun r s6 ⟨u, hr, h6⟩ => ?_
      subst hr
      refine thnF h6 fun _ s7 ⟨x, H7, I7, r7, y7, st7, n7⟩ => ?_
      have I7' := I7.pinned (stat I7 n7) (T.obj _ _ st7)
      refine thnF (pg _ s7 _ H7 x u _ I7' r7 (step x H7 y7)) fun _ s8 ⟨σ8, H8, I8, hw8, q8⟩ => ?_
      refine thnF (pt _ s8 σ8 H8 _ I8 q8) fun b s9 ⟨H9, I9, q9⟩ => ?_
      -- the turn's end
      have fin : ∀ {s' : Shared} {H' : Hp}, Inv (X.blk s3 H3 scope ce fp) ([] ++ pinsAt fp s7.heap) σ8 H' s' → Nx H' → ∃ m, m < n ∧ ∃ i H', Inv (X.blk s3 H3 scope ce fp) [] (wipe σ (own.map (·.2))) H' s' ∧ tn i s'.heap ∧ (∀ b ∈ fp, H' b = none) ∧ W i m H' := fun {s' H'} I' nx => by
        obtain ⟨m', hm, w'⟩ := hNx H' nx
        have pin' : ∀ b ∈ fp, ∀ o, s7.heap.get? b = some o → s'.heap.get? b = some o ∧ H' b = none := fun b hb o e =>
          let z := I'.pin (b, o) (List.mem_append_right _ (List.mem_append_right _ (mem_pinsAt hb e)))
          ⟨z.1, z.2.1⟩
        have hl : (wipe σ (own.map (·.2))).length = σ8.length := by rw [← hw8, wipe_length]
        refine ⟨m', hm, i + 1, H', (I'.unpinned (pins := [])).weak hl (fun j v e => ?_), T.keep _ _ _ st7 fun b hb o e => (pin' b hb o e).1, fun b hb => ?_, w'⟩
        · rw [← hw8] at e
          exact (wipe_some e).1
        · obtain ⟨o, e, _⟩ := T.obj _ _ st7 b hb
          exact (pin' b hb o e).2
      cases b with
      | false =>
        simp only [Bool.false_eq_true, if_false] at q9 ⊢
        exact fin I9 q9
      | true =>
        simp only [if_true] at q9 ⊢
        refine thnF (pe _ s9 σ8 H9 _ I9 q9) fun z s10 ⟨yv, H10, I10, r10, acc, hD10, hz10, nx⟩ => ?_
        exact app_ok (X := X.blk s3 H3 scope ce fp) I10 hD10 hz10 r10 fun s11 I11 => fin I11 nx
  exact codeAny_compStart_list loop (T.self X.A 0 _ _ _ st4 loop)
/-- as a value -/
theorem pe_lc {elt tg iter : Expr} {ifs : List Expr} {scope : Scope} {own : List (Str × Nat)} {pos : Pos} {wi : TI} {g : TG} {tt : TT} {te : TE} (hc : X.calm = true) (hN : X.N.Nodup) (hi : PI X tg iter wi) (ok : BlkOk X.N X.env.scope scope own)
    (hg : ∀ (s : Shared) (H : Hp) (C : Addr) (cl : List (Str × Addr)) (fp : List Addr), PG (X.blk s H scope (compEnvC scope cl C X.env) fp) tg g) (ht : ∀ (s : Shared) (H : Hp) (C : Addr) (cl : List (Str × Addr)) (fp : List Addr), PTs (X.blk s H scope (compEnvC scope cl C X.env) fp) ifs tt)
    (he : ∀ (s : Shared) (H : Hp) (C : Addr) (cl : List (Str × Addr)) (fp : List Addr), PE (X.blk s H scope (compEnvC scope cl C X.env) fp) elt te) (hs : ∀ x, foldedSetIterable iter X.env x = pure x := by intro _; rfl) :
    PE X (.ListComp elt [⟨tg, iter, ifs, 0⟩] scope pos) (tLc wi g tt te (own.map (·.2))) := by
  intro pins s σ H Q I h
  rw [eval_ListComp]
  refine lc_core hc hN I hi ok hg ht he hs h fun D C s' m H' I' q hn f => ⟨m, hn, fun h'' sb => ?_⟩
  obtain ⟨f0, f1, f2, f3, f4, f5⟩ := f
  exact ⟨.ref D, H', I'.turned (t' := s'.toks) (fun b o hb e => (sb.2 b hb).trans e) f0 f1 f3 f4 f5, rfl, q⟩
/-- name = [..] on one line, the name a local -/
theorem ps_setLc {i : Nat} {y : Str} {py : Pos} {elt tg iter : Expr} {ifs : List Expr} {scope : Scope} {own : List (Str × Nat)} {pos spos : Pos} {wi : TI} {g : TG} {tt : TT} {te : TE} (hc : X.calm = true) (hN : X.N.Nodup) (hy : X.N[i]? = some y) (hyl : X.env.scope.names.lookup y = some .local)
    (hsw : swapsWith (.ListComp elt [⟨tg, iter, ifs, 0⟩] scope pos) (some (.Name y py)) spos.line X.env = pure true) (hi : PI X tg iter wi) (ok : BlkOk X.N X.env.scope scope own)
    (hg : ∀ (s : Shared) (H : Hp) (C : Addr) (cl : List (Str × Addr)) (fp : List Addr), PG (X.blk s H scope (compEnvC scope cl C X.env) fp) tg g) (ht : ∀ (s : Shared) (H : Hp) (C : Addr) (cl : List (Str × Addr)) (fp : List Addr), PTs (X.blk s H scope (compEnvC scope cl C X.env) fp) ifs tt)
    (he : ∀ (s : Shared) (H : Hp) (C : Addr) (cl : List (Str × Addr)) (fp : List Addr), PE (X.blk s H scope (compEnvC scope cl C X.env) fp) elt te) (hs : ∀ x, foldedSetIterable iter X.env x = pure x := by intro _; rfl) :
    PS X (.Assign [.Name y py] (.ListComp elt [⟨tg, iter, ifs, 0⟩] scope pos) spos) (tAsg (tLc wi g tt te (own.map (·.2))) (gName i)) := by
  intro pins s σ H D I h
  rw [exec_Assign_Name_used _ _ _ _ hsw]
  refine wpAny_bind (wpAny_standAt (wpAny_bind ?_))
  show wpAny _ X.A (do let _ ← comprehension (.ListComp elt [⟨tg, iter, ifs, 0⟩] scope pos) scope X.env (firstIterPos [⟨tg, iter, ifs, 0⟩] pos) (newList []) false (eval iter X.env) (some (assign (.Name y py) X.env))) _ _ s
  have h : tLc wi g tt te (own.map (·.2)) σ H (fun x H1 => gName i x σ H1 D.nx) := h
  refine wpAny_bind (thn (lc_core (Qf := fun _ s' => SP X pins D .next s') hc hN I hi ok hg ht he hs h fun L C s' m H' I' q hn f => ?_) fun _ s' hq => wpAny_pure (wpAny_pure hq))
  show wpAny _ _ (assign (.Name y py) X.env (.ref L)) _ _ _
  refine wpAny_assign_Name (store_ok2 (v := V.ref L) I' hN hy (.inl hyl) rfl (fun s2 I2 ⟨a, sb, ha⟩ => ?_) (.inr hyl))
  obtain ⟨f0, f1, f2, f3, f4, f5⟩ := f
  have haC : C ≠ a := by
    rcases ha with z | z
    · rw [z]; exact f1
    · exact fun e => f4 y a z e.symm
  refine ⟨m, hn.sameBut sb haC, fun h3 sb3 => ?_⟩
  exact ⟨_, H', I2.turned (t' := s2.toks) (fun b o hb e => (sb3.2 b hb).trans e) f0 f1 f3 f4 f5, q⟩
theorem sw_true {elt : Expr} {gs : List Comprehension} {scope : Scope} {pos py : Pos} {y : Str} {l : Nat} {env : Env} (hk : env.scope.kind = .function) (hy : env.scope.names.lookup y = some .local) (hl : (py.line == pos.line) = true)
    (ha : (scope.names.any fun (n, k) => n == y && (k == .local || k == .cell)) = false) : swapsWith (.ListComp elt gs scope pos) (some (.Name y py)) l env = pure true := by
  have ky : env.kindOf y = some .local := hy
  have hb : env.blockKind = .function := by unfold Env.blockKind; rw [hk]; rfl
  unfold swapsWith
  simp only [hb, ky, ha, Expr.pos, hl]
  rfl
end
/-! ### the forms one uses -/
/-- over a list that the block leaves as it is -/
theorem lc_list {K : PySem.W.Frag} {a : Addr} {xs : List V} {g : TG} {tt : TT} {te : TE} {vs : List Nat} {σ : St} {H1 : Hp} {D : Addr} {Qd : Hp → Prop} (Pv : Nat → Hp → Prop) (h0 : Pv 0 (upd H1 D (.lst []))) (hl : ∀ i H, i ≤ xs.length → Pv i H → SqL K H a xs)
    (hs : ∀ i x H, xs[i]? = some x → Pv i H → g x (wipe σ vs) H fun σ2 H2 => wipe σ2 vs = wipe σ vs ∧ tt σ2 H2 fun b H3 =>
      if b = true then te σ2 H3 fun y H4 => ∃ acc, H4 D = some (.lst acc) ∧ acc.length < sizeLine ∧ Pv (i + 1) (upd H4 D (.lst (acc ++ [y]))) else Pv (i + 1) H3) (hd : ∀ H, Pv xs.length H → Qd H) :
    ∃ W : Nat → Nat → Hp → Prop, (∃ m, W 0 m (upd H1 D (.lst []))) ∧ ∀ i m H, W i m H →
      ((Itl K a).stop i H ∧ Qd H) ∨ ((Itl K a).go i H ∧ ∃ Nx : Hp → Prop, (∀ H', Nx H' → ∃ m', m' < m ∧ W (i + 1) m' H') ∧ ∀ x H', (Itl K a).yld i H x H' → g x (wipe σ vs) H' fun σ2 H2 => wipe σ2 vs = wipe σ vs ∧ tt σ2 H2 fun b H3 =>
        if b = true then te σ2 H3 fun y H4 => ∃ acc, H4 D = some (.lst acc) ∧ acc.length < sizeLine ∧ Nx (upd H4 D (.lst (acc ++ [y]))) else Nx H3) := by
  refine ⟨fun i m H => m = xs.length - i ∧ i ≤ xs.length ∧ Pv i H, ⟨xs.length, by simp, Nat.zero_le _, h0⟩, ?_⟩
  rintro i m H ⟨rfl, hi, p⟩
  have q := hl i H hi p
  by_cases hlt : i < xs.length
  · refine .inr ⟨⟨xs, xs[i], q, by simp [hlt]⟩, Pv (i + 1), fun H' p' => ⟨xs.length - (i + 1), by omega, rfl, hlt, p'⟩, fun x H' y => ?_⟩
    obtain ⟨e, y⟩ := y
    subst e
    exact hs i x _ (y xs q) p
  · have e : i = xs.length := by omega
    subst e
    exact .inl ⟨⟨xs, q, Nat.le_refl _⟩, hd H p⟩
def blkC (N : List Str) (sc scope : Scope) (own : List (Str × Nat)) : Bool :=
  (match scope.kind with | .function => true | _ => false) && (scope.names.all fun y => decide (scope.names.lookup y.1 = some y.2)) && (own.all fun p => decide (N[p.2]? = some p.1)) &&
    (scope.names.all fun y => match y.2 with
      | .free => (match sc.names.lookup y.1 with | some .cell => true | some .free => true | _ => false)
      | .local => decide (y.1 ∈ own.map (·.1)) || decide (y.1 ∉ N)
      | .cell => decide (y.1 ∈ own.map (·.1)) || decide (y.1 ∉ N)
      | _ => true)
theorem blkOk_by {N : List Str} {sc scope : Scope} {own : List (Str × Nat)} (h : blkC N sc scope own = true) : BlkOk N sc scope own := by
  unfold blkC at h
  simp only [Bool.and_eq_true, List.all_eq_true, decide_eq_true_eq] at h
  obtain ⟨⟨⟨h1, h2⟩, h3⟩, h4⟩ := h
  refine ⟨?_, h2, h3, fun y hy e => ?_, fun y hy e => ?_⟩
  · split at h1
    · assumption
    · cases h1
  · have q := h4 y hy
    simp only [e] at q
    split at q <;> first | exact .inl (by assumption) | exact .inr (by assumption) | cases q
  · have q := h4 y hy
    rcases e with e | e <;> (simp only [e, Bool.or_eq_true, decide_eq_true_eq] at q; exact q)
end L2
namespace L2
open PySem PySem.Spec PyProof.Rows
section
variable {prog : Program} {w : World} {A : Around} {R : Result → Shared → Prop} {s : Shared} {elt t0 i0 t1 i1 : Expr} {ifs0 ifs1 : List Expr} {scope : Scope} {pos : Pos} {it acc : Value} {env : Env}
end
section
variable {X : Cx}
/-- [elt for tg in iter if .. for tg1 in iter1 if ..]: behind the first clause's store and tests the second source's own loop, from which Nx is reached. vs: the block's names; vs1: those of the second target -/
def tLc2 (wi : TI) (g : TG) (tt : TT) (wi1 : TI) (g1 : TG) (tt1 : TT) (te : TE) (vs vs1 : List Nat) : TE := fun σ H Q => wi σ H fun J H1 => ∀ D, H1 D = none → ∃ W : Nat → Nat → Hp → Prop, (∃ m, W 0 m (upd H1 D (.lst []))) ∧ ∀ i m H, W i m H →
  (J.stop i H ∧ Q (.ref D) H) ∨ (J.go i H ∧ ∃ Nx : Hp → Prop, (∀ H', Nx H' → ∃ m', m' < m ∧ W (i + 1) m' H') ∧ ∀ x H', J.yld i H x H' → g x (wipe σ vs) H' fun σ2 H2 => wipe σ2 vs = wipe σ vs ∧ tt σ2 H2 fun b H3 =>
    if b = true then wi1 σ2 H3 fun J1 H4 => ∃ W1 : Nat → Nat → Hp → Prop, (∃ m, W1 0 m H4) ∧ ∀ j k H, W1 j k H →
      (J1.stop j H ∧ Nx H) ∨ (J1.go j H ∧ ∃ Nx1 : Hp → Prop, (∀ H', Nx1 H' → ∃ k', k' < k ∧ W1 (j + 1) k' H') ∧ ∀ x H', J1.yld j H x H' → g1 x (wipe σ2 vs1) H' fun σ3 H5 => wipe σ3 vs1 = wipe σ2 vs1 ∧ tt1 σ3 H5 fun b H6 =>
        if b = true then te σ3 H6 fun y H7 => ∃ acc, H7 D = some (.lst acc) ∧ acc.length < sizeLine ∧ Nx1 (upd H7 D (.lst (acc ++ [y]))) else Nx1 H6)
    else Nx H3)
end
end L2
namespace L2
open PySem PySem.Spec PyProof.Rows
/-! ### lists of pairs as tables -/
section
variable {κ : Type} [DecidableEq κ]
def valV (kvs : List (κ × V)) (k : κ) : Option V := (kvs.find? fun kv => decide (kv.1 = k)).map (·.2)
/-- in its place, or at the end -/
def putK (kvs : List (κ × V)) (k : κ) (v : V) : List (κ × V) :=
  if (kvs.any fun kv => decide (kv.1 = k)) = true then kvs.map (fun kv => if kv.1 = k then (kv.1, v) else kv) else kvs ++ [(k, v)]
def dropK (kvs : List (κ × V)) (k : κ) : List (κ × V) := kvs.filter fun kv => decide (kv.1 ≠ k)
theorem valV_pos {p : κ × V} {r : List (κ × V)} {k : κ} (e : p.1 = k) : valV (p :: r) k = some p.2 := by simp [valV, List.find?_cons, e]
theorem valV_neg {p : κ × V} {r : List (κ × V)} {k : κ} (e : ¬ p.1 = k) : valV (p :: r) k = valV r k := by simp [valV, List.find?_cons, e]
theorem valV_any (k : κ) : ∀ kvs : List (κ × V), (kvs.any fun kv => decide (kv.1 = k)) = (valV kvs k).isSome
  | [] => rfl
  | p :: r => by
    rw [List.any_cons]
    by_cases e : p.1 = k
    · simp only [valV_pos e, decide_eq_true e, Bool.true_or, Option.isSome_some]
    · rw [valV_neg e, decide_eq_false e, Bool.false_or]; exact valV_any k r
theorem RelO.isSome_eq {o : Option V} {u : Option Value} (r : RelO o u) : o.isSome = u.isSome := by
  cases o with
  | none => cases u with
    | none => rfl
    | some _ => exact (show False from r).elim
  | some _ => cases u with
    | none => exact (show False from r).elim
    | some _ => rfl
theorem RelO.getD {o : Option V} {u : Option Value} {d : V} {d' : Value} (r : RelO o u) (rd : RelV d d') : RelV (o.getD d) (u.getD d') := by
  cases o with
  | none => cases u with
    | none => exact rd
    | some _ => exact (show False from r).elim
  | some _ => cases u with
    | none => exact (show False from r).elim
    | some _ => exact r
/-- raw tables of the same keys -/
theorem KV.val {kvs : List (κ × V)} {vs : List (κ × Value)} (r : KV kvs vs) (k : κ) : RelO (valV kvs k) (valueAt vs k) := by
  unfold KV at r
  induction r with
  | nil => exact True.intro
  | @cons p q ps qs h t ih =>
    obtain ⟨h1, h2⟩ := h
    by_cases e : p.1 = k
    · have e' : q.1 = k := h1.symm.trans e
      have b : valueAt (q :: qs) k = some q.2 := by simp [valueAt, List.find?_cons, e']
      rw [valV_pos e, b]; exact h2
    · have e' : ¬ q.1 = k := fun z => e (h1.trans z)
      have b : valueAt (q :: qs) k = valueAt qs k := by simp [valueAt, List.find?_cons, e']
      rw [valV_neg e, b]; exact ih
theorem KV.any {kvs : List (κ × V)} {vs : List (κ × Value)} (r : KV kvs vs) (k : κ) : (kvs.any fun kv => decide (kv.1 = k)) = vs.any fun kv => decide (kv.1 = k) := by
  unfold KV at r
  induction r with
  | nil => rfl
  | cons h t ih => rw [List.any_cons, List.any_cons, ih, h.1]
theorem KV.repl {kvs : List (κ × V)} {vs : List (κ × Value)} (r : KV kvs vs) (k : κ) {y : V} {u : Value} (ry : RelV y u) :
    KV (kvs.map fun kv => if kv.1 = k then (kv.1, y) else kv) (vs.map fun kv => if kv.1 = k then (kv.1, u) else kv) := by
  unfold KV at r ⊢
  induction r with
  | nil => exact .nil
  | @cons p q ps qs h t ih =>
    rw [List.map_cons, List.map_cons]
    refine .cons ?_ ih
    obtain ⟨h1, h2⟩ := h
    by_cases e : p.1 = k
    · rw [if_pos e, if_pos (h1.symm.trans e)]; exact ⟨h1, ry⟩
    · rw [if_neg e, if_neg (fun z => e (h1.trans z))]; exact ⟨h1, h2⟩
theorem KV.put {kvs : List (κ × V)} {vs : List (κ × Value)} (r : KV kvs vs) (k : κ) {y : V} {u : Value} (ry : RelV y u) : KV (putK kvs k y) (stored vs k u) := by
  unfold putK stored
  rw [r.any k]
  by_cases e : (vs.any fun kv => decide (kv.1 = k)) = true
  · rw [if_pos e, if_pos e]; exact r.repl k ry
  · rw [if_neg e, if_neg e]; exact Paired.snoc r ⟨rfl, ry⟩
theorem KV.drop {kvs : List (κ × V)} {vs : List (κ × Value)} (r : KV kvs vs) (k : κ) : KV (dropK kvs k) (without vs k) := by
  unfold KV at r ⊢
  unfold dropK without
  induction r with
  | nil => exact .nil
  | @cons p q ps qs h t ih =>
    obtain ⟨h1, h2⟩ := h
    rw [List.filter_cons, List.filter_cons]
    by_cases e : p.1 = k
    · have a : ¬ decide (p.1 ≠ k) = true := by simp [e]
      have b : ¬ decide (q.1 ≠ k) = true := by simp [h1.symm.trans e]
      rw [if_neg a, if_neg b]; exact ih
    · have e' : ¬ q.1 = k := fun z => e (h1.trans z)
      have a : decide (p.1 ≠ k) = true := by simp [e]
      have b : decide (q.1 ≠ k) = true := by simp [e']
      rw [if_pos a, if_pos b]; exact .cons ⟨h1, h2⟩ ih
theorem KV.keys {kvs : List (κ × V)} {vs : List (κ × Value)} (r : KV kvs vs) : kvs.map (·.1) = vs.map (·.1) := by
  unfold KV at r
  induction r with
  | nil => rfl
  | cons h t ih => rw [List.map_cons, List.map_cons, ih, h.1]
theorem KV.length {kvs : List (κ × V)} {vs : List (κ × Value)} (r : KV kvs vs) : kvs.length = vs.length := Paired.length r
end
/-! ### a tracked dict, its keys ints and texts or tuples of these -/
/-- raw entries of a dict with tuple keys -/
abbrev KT (H : Hp) : List (List Key × V) → List (List Key × Addr × Value) → Prop := Paired fun p q => p.1 = q.1 ∧ H q.2.1 = some (.tup (p.1.map kV)) ∧ RelV p.2 q.2.2
theorem KT.val {H : Hp} {kvs : List (List Key × V)} {xs : List (List Key × Addr × Value)} (r : KT H kvs xs) (k : List Key) : RelO (valV kvs k) ((atKey xs k).map (·.2)) := by
  induction r with
  | nil => exact True.intro
  | @cons p q ps qs h t ih =>
    obtain ⟨h1, _, h2⟩ := h
    by_cases e : p.1 = k
    · have e' : q.1 = k := h1.symm.trans e
      have b : atKey (q :: qs) k = some q.2 := by simp [atKey, List.find?_cons, e']
      rw [valV_pos e, b]; exact h2
    · have e' : ¬ q.1 = k := fun z => e (h1.trans z)
      have b : atKey (q :: qs) k = atKey qs k := by simp [atKey, List.find?_cons, e']
      rw [valV_neg e, b]; exact ih
theorem KT.repl {H : Hp} {kvs : List (List Key × V)} {xs : List (List Key × Addr × Value)} (r : KT H kvs xs) (k : List Key) {y : V} {u : Value} (ry : RelV y u) :
    KT H (kvs.map fun kv => if kv.1 = k then (kv.1, y) else kv) (xs.map (putAt k u)) := by
  induction r with
  | nil => exact .nil
  | @cons p q ps qs h t ih =>
    rw [List.map_cons, List.map_cons]
    refine .cons ?_ ih
    obtain ⟨h1, h2, h3⟩ := h
    unfold putAt
    by_cases e : p.1 = k
    · rw [if_pos e, if_pos (h1.symm.trans e)]; exact ⟨h1, h2, ry⟩
    · rw [if_neg e, if_neg (fun z => e (h1.trans z))]; exact ⟨h1, h2, h3⟩
theorem KT.put {H : Hp} {kvs : List (List Key × V)} {xs : List (List Key × Addr × Value)} (r : KT H kvs xs) (k : List Key) {b : Addr} {y : V} {u : Value} (hb : H b = some (.tup (k.map kV))) (ry : RelV y u) :
    KT H (putK kvs k y) (storedH xs k b u) := by
  have e : (kvs.any fun kv => decide (kv.1 = k)) = (atKey xs k).isSome := by
    rw [valV_any, (r.val k).isSome_eq, Option.isSome_map]
  unfold putK storedH
  rw [e]
  by_cases q : (atKey xs k).isSome = true
  · rw [if_pos q, if_pos q]; exact r.repl k ry
  · rw [if_neg q, if_neg q]; exact Paired.snoc r ⟨rfl, hb, ry⟩
theorem KT.keeps {H H' : Hp} {kvs : List (List Key × V)} {xs : List (List Key × Addr × Value)} (r : KT H kvs xs) (ht : ∀ b ys, H b = some (.tup ys) → H' b = some (.tup ys)) : KT H' kvs xs :=
  Paired.mapP r fun _ _ z => ⟨z.1, ht _ _ z.2.1, z.2.2⟩
section
variable {P : Program} {w : World} {H : Hp} {h : Heap} {a : Addr}
end
/-- what the dict at a holds at the key y -/
def DGet (H : Hp) (a : Addr) (y : V) (r : Option V) : Prop :=
  (∃ kvs k, Rd H a (.dK kvs) ∧ y = kV k ∧ r = valV kvs k) ∨ ∃ kvs k b, Rd H a (.dT kvs) ∧ y = .ref b ∧ H b = some (.tup (k.map kV)) ∧ r = valV kvs k
/-- the heap behind a[y] = v -/
def DPut (H : Hp) (a : Addr) (y v : V) (H' : Hp) : Prop :=
  (∃ kvs k, H a = some (.dK kvs) ∧ y = kV k ∧ kvs.length < sizeLine ∧ H' = upd H a (.dK (putK kvs k v))) ∨
  ∃ kvs k b, H a = some (.dT kvs) ∧ y = .ref b ∧ H b = some (.tup (k.map kV)) ∧ kvs.length < sizeLine ∧ H' = upd H a (.dT (putK kvs k v))
theorem DGet.k {H : Hp} {a : Addr} {kvs : List (Key × V)} {k : Key} (e : H a = some (.dK kvs)) : DGet H a (kV k) (valV kvs k) := .inl ⟨kvs, k, .inl e, rfl, rfl⟩
theorem DGet.t {H : Hp} {a b : Addr} {kvs : List (List Key × V)} {k : List Key} (e : H a = some (.dT kvs)) (eb : H b = some (.tup (k.map kV))) : DGet H a (.ref b) (valV kvs k) := .inr ⟨kvs, k, b, .inl e, rfl, eb, rfl⟩
theorem DPut.k {H : Hp} {a : Addr} {kvs : List (Key × V)} {k : Key} {v : V} (e : H a = some (.dK kvs)) (hl : kvs.length < sizeLine) : DPut H a (kV k) v (upd H a (.dK (putK kvs k v))) := .inl ⟨kvs, k, e, rfl, hl, rfl⟩
theorem DPut.t {H : Hp} {a b : Addr} {kvs : List (List Key × V)} {k : List Key} {v : V} (e : H a = some (.dT kvs)) (eb : H b = some (.tup (k.map kV))) (hl : kvs.length < sizeLine) :
    DPut H a (.ref b) v (upd H a (.dT (putK kvs k v))) := .inr ⟨kvs, k, b, e, rfl, eb, hl, rfl⟩
section
variable {X : Cx} {pins : List (Addr × Obj)} {σ : St} {H : Hp} {s : Shared} {a : Addr} {y v : V} {u r : Value} {o : Option V} {A : Around} {E : Value → Shared → Prop}
end
section
variable {X : Cx} {pins : List (Addr × Obj)} {σ : St} {H : Hp} {s : Shared} {a : Addr} {kvs : List (Key × V)} {k : Key} {u : Value} {A : Around} {E : Value → Shared → Prop}
end
/-! ### readings and rules -/
/-- the element of a subscription, not a slice -/
def NoSl (i : Expr) : Prop := ∀ ov iv, subscripted i false ov iv = operate [ov, iv] (getItem ov iv)
/-- d[y] -/
def tDGet (td ty : TE) : TE := fun σ H Q => td σ H fun x H1 => ty σ H1 fun y H2 => ∃ a v, x = .ref a ∧ DGet H2 a y (some v) ∧ Q v H2
/-- y in d, y not in d -/
def tDIn (ty td : TE) : TE := fun σ H Q => ty σ H fun y H1 => td σ H1 fun x H2 => ∃ a o, x = .ref a ∧ DGet H2 a y o ∧ Q (.bl o.isSome) H2
def tDNotIn (ty td : TE) : TE := fun σ H Q => ty σ H fun y H1 => td σ H1 fun x H2 => ∃ a o, x = .ref a ∧ DGet H2 a y o ∧ Q (.bl (!o.isSome)) H2
/-- d[y] = v -/
def sDPut (td ty tv : TE) : TS := fun D σ H => tv σ H fun v H1 => td σ H1 fun x H2 => ty σ H2 fun y H3 => ∃ a H4, x = .ref a ∧ DPut H3 a y v H4 ∧ D.nx σ H4
/-- d[y] op= v -/
def sDAug (td ty tv : TE) (rd : V → V → Hp → VK → Prop) : TS := fun D σ H => td σ H fun x H1 => ty σ H1 fun y H2 => ∃ a v, x = .ref a ∧ DGet H2 a y (some v) ∧
  tv σ H2 fun y2 H3 => rd v y2 H3 fun z H4 => ∃ H5, DPut H4 a y z H5 ∧ D.nx σ H5
/-- del d[y] -/
def sDDel (td ty : TE) : TS := fun D σ H => td σ H fun x H1 => ty σ H1 fun y H2 => ∃ a kvs k, x = .ref a ∧ H2 a = some (.dK kvs) ∧ y = kV k ∧ (valV kvs k).isSome = true ∧ D.nx σ (upd H2 a (.dK (dropK kvs k)))
section
variable {X : Cx} {o i e value : Expr} {pos pos' tpos : Pos} {td ty tv : TE}
end
/-! ### displays -/
/-- {}, to be a dict of the kind that is wanted -/
def tDNewK : TE := fun _ H Q => ∀ p, H p = none → Q (.ref p) (upd H p (.dK []))
def tDNewT : TE := fun _ H Q => ∀ p, H p = none → Q (.ref p) (upd H p (.dT []))
section
variable {X : Cx} {pos : Pos}
end
/-- the pairs of a display, from the left -/
def tPairs : List (TE × TE) → St → Hp → (List (V × V) → Hp → Prop) → Prop
  | [], _, H, Q => Q [] H
  | (tk, tv) :: r, σ, H, Q => tk σ H fun x H1 => tv σ H1 fun y H2 => tPairs r σ H2 fun ps H3 => Q ((x, y) :: ps) H3
abbrev VV : List (V × V) → List (Value × Value) → Prop := Paired fun p q => RelV p.1 q.1 ∧ RelV p.2 q.2
def PPs (X : Cx) (pos : Pos) (keys : List (Option Expr)) (values : List Expr) (trs : List (TE × TE)) : Prop :=
  ∀ (pins : List (Addr × Obj)) (s : Shared) (σ : St) (H : Hp) (Q : List (V × V) → Hp → Prop), Inv X pins σ H s → tPairs trs σ H Q →
    wpAny (model X.prog X.w) X.A (evalPairs (pairTrees keys values X.env pos)) (fun vs s' => ∃ ps H', Inv X pins σ H' s' ∧ VV ps vs ∧ Q ps H') X.xe s
def mergeK (kvs more : List (Key × V)) : List (Key × V) := more.foldl (fun acc kv => putK acc kv.1 kv.2) kvs
/-- {k: v, ..} with keys ints and texts; the new dict stands empty while the pairs are made -/
def tDisp (trs : List (TE × TE)) : TE := fun σ H Q => ∀ p, H p = none → tPairs trs σ (upd H p (.dK [])) fun ps H2 => H2 p = some (.dK []) ∧ ∃ kvs : List (Key × V), ps = kvs.map (fun kv => (kV kv.1, kv.2)) ∧ kvs.length ≤ 15 ∧ Q (.ref p) (upd H2 p (.dK (mergeK [] kvs)))
/-! ### methods -/
/-- a method call o.m(e) of a built-in, with one argument: what must be seen of the text -/
structure M1 (X : Cx) (o : Expr) (m : Str) (apos : Pos) (e : Expr) (cpos : Pos) : Prop where
  base : attributeBase o m X.env (eval o X.env) = eval o X.env
  few : ((backTo cpos (starEach [e] X.env)).all (fun x => !x.1) && (backToKw cpos (keywordEach [] X.env)).all (fun x => x.1.isSome)
    && decide (([e] : List Expr).length + ([] : List Keyword).length + (if ([] : List Keyword).isEmpty then 0 else 1) < 30)) = true
  line : (apos.endLine == cpos.line) = true
  trees : backTo cpos (starEach [e] X.env) = [(false, eval e X.env)]
structure M2 (X : Cx) (o : Expr) (m : Str) (apos : Pos) (e f : Expr) (cpos : Pos) : Prop where
  base : attributeBase o m X.env (eval o X.env) = eval o X.env
  few : ((backTo cpos (starEach [e, f] X.env)).all (fun x => !x.1) && (backToKw cpos (keywordEach [] X.env)).all (fun x => x.1.isSome)
    && decide (([e, f] : List Expr).length + ([] : List Keyword).length + (if ([] : List Keyword).isEmpty then 0 else 1) < 30)) = true
  line : (apos.endLine == cpos.line) = true
  trees : backTo cpos (starEach [e, f] X.env) = [(false, eval e X.env), (false, eval f X.env)]
/-- a is a dict, whatever its keys -/
def IsD (H : Hp) (a : Addr) : Prop := (∃ kvs, Rd H a (.dK kvs)) ∨ ∃ kvs, Rd H a (.dT kvs)
section
variable {X : Cx} {pins : List (Addr × Obj)} {σ : St} {H : Hp} {s : Shared} {a : Addr} {y d : V} {u r : Value} {o : Option V} {A : Around} {E : Value → Shared → Prop}
end
def tDGet1 (td ty : TE) : TE := fun σ H Q => td σ H fun x H1 => ∃ a, x = .ref a ∧ IsD H1 a ∧ ty σ H1 fun y H2 => ∃ o, DGet H2 a y o ∧ Q (o.getD .non) H2
def tDGet2 (td ty tx : TE) : TE := fun σ H Q => td σ H fun x H1 => ∃ a, x = .ref a ∧ IsD H1 a ∧ ty σ H1 fun y H2 => tx σ H2 fun z H3 => ∃ o, DGet H3 a y o ∧ Q (o.getD z) H3
/-- d.pop(k): there; d.pop(k, x): there or not -/
def tDPop1 (td ty : TE) : TE := fun σ H Q => td σ H fun x H1 => ∃ a, x = .ref a ∧ IsD H1 a ∧ ty σ H1 fun y H2 => ∃ kvs k v, H2 a = some (.dK kvs) ∧ y = kV k ∧ valV kvs k = some v ∧ Q v (upd H2 a (.dK (dropK kvs k)))
def tDPop2 (td ty tx : TE) : TE := fun σ H Q => td σ H fun x H1 => ∃ a, x = .ref a ∧ IsD H1 a ∧ ty σ H1 fun y H2 => tx σ H2 fun z H3 => ∃ kvs k, H3 a = some (.dK kvs) ∧ y = kV k ∧
  (∀ v, valV kvs k = some v → Q v (upd H3 a (.dK (dropK kvs k)))) ∧ (valV kvs k = none → Q z H3)
section
variable {X : Cx} {o e f : Expr} {apos cpos : Pos} {td ty tx : TE}
end
/-! ### dict(d): a copy -/
section
variable {X : Cx} {pins : List (Addr × Obj)} {σ : St} {H : Hp} {s : Shared} {a : Addr} {kvs : List (Key × V)} {A : Around} {E : Value → Shared → Prop}
end
section
variable {X : Cx} {pins : List (Addr × Obj)} {σ : St} {H : Hp} {s : Shared} {a : Addr} {y : V} {u : Value} {A : Around} {E : Value → Shared → Prop}
end
end L2
namespace L2
open PySem PySem.Spec PyProof.Rows
section
variable {prog : Program} {w : World} {A : Around} {E : Value → Shared → Prop}
end
section
variable {X : Cx}
end
end L2
namespace L2
open PySem PySem.Spec PyProof.Rows
section
variable {X : Cx} {pins : List (Addr × Obj)} {σ : St} {H : Hp} {s : Shared} {h' : Heap}
/-- .. and one new object is laid -/
theorem Inv.turnedNew {t' : Nat} {ch : List Addr} {T : Addr} {ob : HO} (I : Inv X pins σ H s) (k : ∀ b o, b ∉ ch → s.heap.get? b = some o → h'.get? b = some o) (hf : ∀ b ∈ ch, FpOk X pins H b) (hT : s.heap.objs.size ≤ T)
    (new : ObjOk X.prog X.w (upd H T ob) h' T ob) : Inv X pins σ (upd H T ob) { s with heap := h', toks := t' } := by
  have hn : H T = none := I.hok.fresh hT
  have nit : ∀ b u, H b = some u → b ∉ ch := fun b u e z => by
    have q := (hf b z).1
    rw [q] at e; cases e
  refine I.step (g' := s.gens) (d' := s.drawn) (ch := ch) (fun b hb => ⟨(hf b hb).2.2.2.1, (hf b hb).2.1, (hf b hb).2.2.2.2.1, (hf b hb).2.2.2.2.2⟩) (fun b o _ _ hc e _ => k b o hc e) (fun b o _ _ hc e _ => ⟨o.slots, k b o hc e⟩)
    (fun b o _ e n => ?_) (fun b o hc e => ⟨o, k b o hc e⟩) (fun b xs e => ?_) (fun b o u e => ?_) (fun b ps e => ⟨#[], ?_⟩) (fun m hm => ?_) (fun b u e => ?_) I.bare
  · rw [upd_ne (Nat.ne_of_lt (Nat.lt_of_lt_of_le (Heap.lt_size e) hT))]; exact n
  · rw [upd_ne (ne_of_none e hn)]; exact e
  · rw [upd_ne (ne_of_none e hn)]; exact e
  · rw [upd_ne (ne_of_none e hn), e]; simp
  · obtain ⟨o, es, ep, ho, r⟩ := hm
    exact ⟨o, es, ep, k _ o (fun z => (hf _ z).2.1 rfl) ho, r⟩
  · by_cases hb : b = T
    · subst hb
      rw [upd_same] at e
      cases e
      exact new
    · rw [upd_ne hb] at e
      refine (I.hok b u e).stay (fun c v hc q => k c v ?_ q) (fun c q => by rw [upd_ne (ne_of_none q hn)]; exact q) fun c xs q => by rw [upd_ne (ne_of_none q hn)]; exact q
      rcases hc with z | z
      · rw [z]; exact nit b u e
      · exact nit c _ z
/-! ### locking a thing while a statement runs -/
end
/-- the statement runs while the thing at d is locked (read, not written); d and what stands there are the reading's choice -/
def tLock (t : TS) : TS := fun D σ H => ∃ d u, H d = some u ∧ Mut (some u) ∧ ∀ od, t ⟨fun σ' H' => H' d = some (.frz od u) ∧ D.nx σ' (upd H' d u), fun v H' => H' d = some (.frz od u) ∧ D.rt v (upd H' d u), fun σ' H' => H' d = some (.frz od u) ∧ D.bk σ' (upd H' d u), fun σ' H' => H' d = some (.frz od u) ∧ D.ct σ' (upd H' d u)⟩ σ (upd H d (.frz od u))
def tLockE (t : TE) : TE := fun σ H Q => ∃ d u, H d = some u ∧ Mut (some u) ∧ ∀ od, t σ (upd H d (.frz od u)) fun v H' => H' d = some (.frz od u) ∧ Q v (upd H' d u)
section
variable {X : Cx}
/-! ### one iterator just laid -/
theorem pi_one {tg : Expr} {pins : List (Addr × Obj)} {σ : St} {H : Hp} {s : Shared} {R : It → Hp → Prop} {J : It} {tn : Nat → Heap → Prop} {tk : Nat} (I : Inv X pins σ H s) (o : Obj)
    (T : Turn X.prog X.w X.K tg J [s.heap.objs.size] s.heap.objs.size tn) (st : tn 0 (s.heap.push o)) (q : R J H) : PIE X pins σ tg R (.ref s.heap.objs.size) { s with heap := s.heap.push o, toks := tk } := by
  refine ⟨s.heap.objs.size, [s.heap.objs.size], tn, J, H, rfl, I.kept fun b ob e => Heap.get?_push_of_some _ e, T, st, fun b hb => ?_, q⟩
  have e : b = s.heap.objs.size := by simpa using hb
  subst e
  exact I.fpOk (Nat.le_refl _) (I.hok.fresh (Nat.le_refl _))
end
/-! ### range with a step -/
/-- lo, lo + c, .. (n of them) -/
def Itc (lo c : Int) (n : Nat) : It := ⟨fun i _ => i < n, fun i H x H' => H' = H ∧ x = .int (lo + (i : Nat) * c), fun i _ => n ≤ i⟩
theorem turn_rangeC {P : Program} {w : World} {K : PySem.W.Frag} {tg : Expr} (it : Addr) (lo c : Int) (n : Nat) : Turn P w K tg (Itc lo c n) [it] it (fun i h => IsRangeIter h it (lo + (i : Nat) * c) ((n : Int) - (i : Nat)) c) where
  mem := by simp
  obj := fun i h st b hb => by
    have e : b = it := by simpa using hb
    subst e
    exact ⟨_, st, fun v z => nomatch z⟩
  keep := fun i h h' st k => k it (by simp) _ st
  item := by
    intro X hP hw hK hc i pins s σ H E I hf st hg
    subst hP hw hK
    obtain ⟨f0, f1, f2, f3, f4, f5⟩ := hf it (by simp)
    have W := Walks.range (prog := X.prog) (w := X.w) (I.ok.hd hc) it lo c n
    refine W.item i s _ _ hg st fun v h' tk hv st' kk => ?_
    obtain ⟨t, rfl⟩ := hv
    have I1 : Inv X pins σ H { s with heap := h', toks := tk } := I.turned (fun b o hb e => kk b o (by simpa using hb) e) f0 f1 f3 f4 f5
    exact ⟨_, rfl, go_of (s := { s with heap := h', toks := tk }) (n := "range_iterator") st' rfl rfl (by decide) ⟨.int (lo + (i : Nat) * c), H, I1, ⟨t, rfl⟩, ⟨rfl, rfl⟩, st', fun b hb => (hf b hb).1⟩⟩
  done := by
    intro X hP hw hK hc i pins s σ H E I hf st hg
    subst hP hw hK
    obtain ⟨f0, f1, f2, f3, f4, f5⟩ := hf it (by simp)
    exact wpAny_pyNext_range_end (I.ok.hd hc) st (by have : n ≤ i := hg; omega) fun h' eb => ⟨rfl, I.turned (t' := s.toks) (fun b o hb e => eb b o hb e) f0 f1 f3 f4 f5⟩
  self := fun A i s Q E st h => wpAny_pyIter_rangeiter st h
/-- range(i, j, c): small bounds, n items -/
def RgC (i j c : Int) (n : Nat) : Prop := c ≠ 0 ∧ c.natAbs < 1073741824 ∧ Builtin.Range.small i j c = true ∧ Builtin.Range.rangeSize i j c = n
theorem RgC.neg {i j : Int} (ha : -(2 ^ 62) ≤ i) (ha' : i < 2 ^ 62) (hb : -(2 ^ 62) ≤ j) (hb' : j < 2 ^ 62) : RgC i j (-1) (i - j).toNat :=
  ⟨by decide, by decide, PySem.W.small_down ha ha' hb hb', PySem.W.rangeSize_downNat i j⟩
def iRng3 (ta : TA) : TI := fun σ H R => ta σ H fun vs H1 => ∃ (i j c : Int) (n : Nat), vs = [.int i, .int j, .int c] ∧ RgC i j c n ∧ R (Itc i c n) H1
section
variable {X : Cx} {tg : Expr}
theorem pi_range3 {a b c : Expr} {ta : TA} {p pos : Pos} (hg : Gl X "range") (hm : X.mg "range" = none) (ha : PA X [a, b, c] ta)
    (hs : starEach [a, b, c] X.env = (false, eval a X.env) :: starEach [b, c] X.env := by rfl) (hpl : (backTo pos (starEach [b, c] X.env)).any (·.1) = false := by rfl) :
    PI X tg (.Call (.Name "range" p) [a, b, c] [] pos) (iRng3 ta) := by
  intro pins s σ H R I h
  refine Call_ (ld_blt I hg hm boot_range (PyProof.Rows.callWith_type1 (thn (ha pos pins s σ H _ I h) fun us s1 ⟨vs, H1, I1, r1, q1⟩ => ?_) hs hpl))
  obtain ⟨i, j, k, n, e, ⟨c0, c1, c2, c3⟩, q⟩ := q1
  subst e
  cases r1 with
  | cons r rr =>
    cases rr with
    | cons r' rr =>
      cases rr with
      | cons r'' rr =>
        cases rr
        obtain ⟨t, rfl⟩ := r
        obtain ⟨t', rfl⟩ := r'
        obtain ⟨t'', rfl⟩ := r''
        refine call_range_3 c0 ?_ (.inl (PyProof.noPylong_small c1))
        refine wpAny_pyIter_range (IsRange.new ..) c2 ?_
        have I2 : Inv X pins σ H1 { s1 with heap := s1.heap.push { cls := .type "range", data := .fields #[.int i t, .int j t', .int k t''] } } := I1.kept (t' := s1.toks) fun b o e => Heap.get?_push_of_some _ e
        refine pi_one (tk := s1.toks) I2 _ (turn_rangeC _ i k n) ?_ q
        have e1 : i + ((0 : Nat) : Int) * k = i := by simp
        have e2 : (n : Int) - ((0 : Nat) : Int) = Builtin.Range.rangeSize i j k := by rw [c3]; simp
        show IsRangeIter _ _ (i + ((0 : Nat) : Int) * k) ((n : Int) - ((0 : Nat) : Int)) k
        rw [e1, e2]
        exact Heap.get?_push_size _ rfl
end
/-- the turns of a step range, for the for loop -/
theorem for_rangeC {lo c : Int} {n : Nat} {g : TG} {tb : TS} {D : Ends} {σ : St} {H : Hp} (Pv : Nat → St → Hp → Prop) (h0 : Pv 0 σ H)
    (hs : ∀ i σ H, i < n → Pv i σ H → g (.int (lo + (i : Nat) * c)) σ H fun σ2 H2 => tb { D with nx := Pv (i + 1), ct := Pv (i + 1), bk := D.nx } σ2 H2) (hd : ∀ σ H, Pv n σ H → D.nx σ H) :
    ∃ W : Nat → Nat → St → Hp → Prop, (∃ m, W 0 m σ H) ∧ ∀ i m σ H, W i m σ H →
      ((Itc lo c n).stop i H ∧ D.nx σ H) ∨ ((Itc lo c n).go i H ∧ ∃ N : St → Hp → Prop, (∀ σ' H', N σ' H' → ∃ m', m' < m ∧ W (i + 1) m' σ' H') ∧ ∀ x H', (Itc lo c n).yld i H x H' → g x σ H' fun σ2 H2 => tb { D with nx := N, ct := N, bk := D.nx } σ2 H2) := by
  refine ⟨fun i m σ H => m = n - i ∧ i ≤ n ∧ Pv i σ H, ⟨n, by simp, Nat.zero_le _, h0⟩, ?_⟩
  rintro i m σ H ⟨rfl, hi, p⟩
  by_cases hlt : i < n
  · refine .inr ⟨hlt, Pv (i + 1), fun σ' H' p' => ⟨n - (i + 1), by omega, rfl, hlt, p'⟩, fun x H' y => ?_⟩
    obtain ⟨e, y⟩ := y
    subst e y
    exact hs i σ _ hlt p
  · have e : i = n := by omega
    subst e
    exact .inl ⟨Nat.le_refl _, hd σ H p⟩
/-! ### reversed(list) -/
/-- the list at a (n items at the start, which the loop leaves there), from its end -/
def Itv (K : PySem.W.Frag) (a : Addr) (n : Nat) : It :=
  ⟨fun i H => i < n ∧ ∃ (xs : List V) (x : V), SqL K H a xs ∧ xs[n - 1 - i]? = some x, fun i H x H' => H' = H ∧ ∀ xs, SqL K H a xs → xs[n - 1 - i]? = some x, fun i _ => n ≤ i⟩
def iRev (K : PySem.W.Frag) (ta : TA) : TI := fun σ H R => ta σ H fun vs H1 => ∃ (a : Addr) (xs : List V), vs = [.ref a] ∧ SqL K H1 a xs ∧ R (Itv K a xs.length) H1
section
variable {X : Cx} {tg : Expr}
end
/-! ### a str -/
def Its (x : Str) : It := ⟨fun i _ => i < x.cps.size, fun i H v H' => H' = H ∧ ∃ c, x.cps[i]? = some c ∧ v = .str ⟨#[c]⟩, fun i _ => x.cps.size ≤ i⟩
theorem turn_str {P : Program} {w : World} {K : PySem.W.Frag} {tg : Expr} (it : Addr) (x : Str) (t : Tok) (ty : String) (hty : ty = "str_ascii_iterator" ∨ ty = "str_iterator") :
    Turn P w K tg (Its x) [it] it (fun i h => h.IsStrIter it ty x t i) where
  mem := by simp
  obj := fun i h st b hb => by
    have e : b = it := by simpa using hb
    subst e
    obtain ⟨o, e, c, d⟩ := st
    exact ⟨o, e, fun v z => by rw [d] at z; cases z⟩
  keep := fun i h h' st k => let ⟨o, ho, r⟩ := st; ⟨o, k it (by simp) o ho, r⟩
  item := by
    intro X hP hw hK hc i pins s σ H E I hf st hg
    subst hP hw hK
    obtain ⟨f0, f1, f2, f3, f4, f5⟩ := hf it (by simp)
    have W : Walks X.prog X.w X.A it [it] [it] x.cps.size (SignAt x) (fun i h => h.IsStrIter it ty x t i) := by
      rcases hty with e | e
      · rw [e]; exact Walks.strAscii (I.ok.hd hc) it x t
      · rw [e]; exact Walks.strWide (I.ok.hd hc) it x t
    have hno : ["enumerate", "zip", "dict_itemiterator", "dict_reverseitemiterator", "odict_iterator", "itertools.zip_longest", "itertools.pairwise"].contains ty = false := by
      rcases hty with e | e
      · rw [e]; decide
      · rw [e]; decide
    refine W.item i s _ _ hg st fun v h' tk hv st' kk => ?_
    obtain ⟨c, u, hcx, rfl⟩ := hv
    have I1 : Inv X pins σ H { s with heap := h', toks := tk } := I.turned (fun b o hb e => kk b o (by simpa using hb) e) f0 f1 f3 f4 f5
    obtain ⟨oi, e, cc, dd⟩ := id st'
    exact ⟨_, rfl, go_of (s := { s with heap := h', toks := tk }) e cc dd hno ⟨.str ⟨#[c]⟩, H, I1, ⟨u, rfl⟩, ⟨rfl, c, hcx, rfl⟩, st', fun b hb => (hf b hb).1⟩⟩
  done := by
    intro X hP hw hK hc i pins s σ H E I hf st hg
    subst hP hw hK
    obtain ⟨f0, f1, f2, f3, f4, f5⟩ := hf it (by simp)
    have hx : x.cps[i]? = none := Array.getElem?_eq_none hg
    rcases hty with e | e
    · rw [e] at st
      exact wpAny_pyNext_ascii_end (I.ok.hd hc) st hx fun h' eb => ⟨rfl, I.turned (t' := s.toks) (fun b o hb e => eb b o hb e) f0 f1 f3 f4 f5⟩
    · rw [e] at st
      exact wpAny_pyNext_wide_end (I.ok.hd hc) st hx fun h' eb => ⟨rfl, I.turned (t' := s.toks) (fun b o hb e => eb b o hb e) f0 f1 f3 f4 f5⟩
  self := fun A i s Q E st h => by
    rcases hty with e | e
    · rw [e] at st; exact wpAny_pyIter_striter_ascii st h
    · rw [e] at st; exact wpAny_pyIter_striter_wide st h
def iStr (te : TE) : TI := fun σ H R => te σ H fun v H1 => ∃ x, v = .str x ∧ R (Its x) H1
theorem pi_str {X : Cx} {tg e : Expr} {te : TE} (he : PE X e te) : PI X tg e (iStr te) := by
  intro pins s σ H R I h
  refine thn (he pins s σ H _ I h) fun v s1 ⟨y, H1, I1, r1, x, ex, q⟩ => ?_
  subst ex
  obtain ⟨t, rfl⟩ := r1
  cases ha : x.cps.all (· < 128)
  · exact wpAny_pyIter_wide ha (pi_one (tk := s1.toks) I1 _ (turn_str _ x t "str_iterator" (.inr rfl)) ⟨_, Heap.get?_push_size _ rfl, rfl, rfl⟩ q)
  · exact wpAny_pyIter_ascii ha (pi_one (tk := s1.toks) I1 _ (turn_str _ x t "str_ascii_iterator" (.inl rfl)) ⟨_, Heap.get?_push_size _ rfl, rfl, rfl⟩ q)
/-! ### a dict's keys: any dict's entries -/
section
variable {prog : Program} {w : World} {A : Around} {E : Value → Shared → Prop} {s : Shared}
end
/-! ### a locked dict -/
section
variable {X : Cx} {pins : List (Addr × Obj)} {σ : St} {H : Hp} {s : Shared} {d : Addr} {o : Obj}
end
/-- the keys of the locked dict at d, in their order -/
def Itk (d : Addr) (o : Obj) (kvs : List (Key × V)) : It :=
  ⟨fun i H => H d = some (.frz o (.dK kvs)) ∧ i < kvs.length, fun i H x H' => H' = H ∧ ∃ k v, kvs[i]? = some (k, v) ∧ x = kV k, fun i H => H d = some (.frz o (.dK kvs)) ∧ kvs.length ≤ i⟩
/-- .. of tuple keys: the key's own tuple -/
def Itkt (d : Addr) (o : Obj) (kvs : List (List Key × V)) : It :=
  ⟨fun i H => H d = some (.frz o (.dT kvs)) ∧ i < kvs.length, fun i H x H' => H' = H ∧ ∃ (k : List Key) (v : V) (q : Addr), kvs[i]? = some (k, v) ∧ x = .ref q ∧ H q = some (.tup (k.map kV)), fun i H => H d = some (.frz o (.dT kvs)) ∧ kvs.length ≤ i⟩
/-- the values -/
def Itd (d : Addr) (o : Obj) (kvs : List (Key × V)) : It :=
  ⟨fun i H => H d = some (.frz o (.dK kvs)) ∧ i < kvs.length, fun i H x H' => H' = H ∧ ∃ k, kvs[i]? = some (k, x), fun i H => H d = some (.frz o (.dK kvs)) ∧ kvs.length ≤ i⟩
/-- the pairs, each a new tuple -/
def Iti (d : Addr) (o : Obj) (kvs : List (Key × V)) : It :=
  ⟨fun i H => H d = some (.frz o (.dK kvs)) ∧ i < kvs.length, fun i H x H' => ∃ T k v, kvs[i]? = some (k, v) ∧ x = .ref T ∧ H T = none ∧ H' = upd H T (.tup [kV k, v]), fun i H => H d = some (.frz o (.dK kvs)) ∧ kvs.length ≤ i⟩
section
variable {P : Program} {w : World} {K : PySem.W.Frag} {tg : Expr} {d : Addr} {o : Obj} {es : Array DictEntry} {ep : Nat}
end
/-! ### for k in d, d.keys(), d.values(), d.items() -/
/-- the dict is locked (tLock, or by the caller) -/
def iKeys (td : TE) : TI := fun σ H R => td σ H fun x H1 => ∃ d o, x = .ref d ∧ ((∃ kvs, H1 d = some (.frz o (.dK kvs)) ∧ R (Itk d o kvs) H1) ∨ ∃ kvs, H1 d = some (.frz o (.dT kvs)) ∧ R (Itkt d o kvs) H1)
def iVals (td : TE) : TI := fun σ H R => td σ H fun x H1 => ∃ d o kvs, x = .ref d ∧ H1 d = some (.frz o (.dK kvs)) ∧ R (Itd d o kvs) H1
def iItems (td : TE) : TI := fun σ H R => td σ H fun x H1 => ∃ d o kvs, x = .ref d ∧ H1 d = some (.frz o (.dK kvs)) ∧ R (Iti d o kvs) H1
def iKeysM (td : TE) : TI := fun σ H R => td σ H fun x H1 => ∃ d o kvs, x = .ref d ∧ H1 d = some (.frz o (.dK kvs)) ∧ R (Itk d o kvs) H1
section
variable {X : Cx} {tg e : Expr} {td : TE} {apos cpos : Pos}
end
/-! ### enumerate(list) -/
/-- the list at a as it stands at each turn, each item in a new pair -/
def Ite (K : PySem.W.Frag) (a : Addr) : It :=
  ⟨fun i H => ∃ (xs : List V) (x : V), SqL K H a xs ∧ xs[i]? = some x, fun i H v H' => ∃ T x, v = .ref T ∧ H T = none ∧ H' = upd H T (.tup [.int (i : Nat), x]) ∧ ∀ xs, SqL K H a xs → xs[i]? = some x, fun i H => ∃ xs : List V, SqL K H a xs ∧ xs.length ≤ i⟩
theorem turn_enum {P : Program} {w : World} {K : PySem.W.Frag} {elts : List Expr} {kk : Nat} {tpos : Pos} (a e it : Addr) :
    Turn P w K (.Tuple elts kk tpos) (Ite K a) [e, it] e (fun i h => (∃ old, IsEnum h e it ((i : Nat) : Int) old) ∧ h.IsListIter it a i ∧ e ≠ it) where
  mem := by simp
  obj := fun i h st b hb => by
    obtain ⟨⟨old, he⟩, ⟨o, ho, hc, hd⟩, _⟩ := st
    have e' : b = e ∨ b = it := by simpa using hb
    rcases e' with z | z
    · rw [z]; exact ⟨_, he, fun v q => nomatch q⟩
    · rw [z]; exact ⟨o, ho, fun v q => by rw [hd] at q; cases q⟩
  keep := fun i h h' st k => let ⟨⟨old, he⟩, hi, hne⟩ := st; ⟨⟨old, k e (by simp) _ he⟩, hi.at fun o q => k it (by simp) o q, hne⟩
  item := by
    intro X hP hw hK hc i pins s σ H E I hf st hg
    subst hP hw hK
    obtain ⟨⟨old, he⟩, hit, hne⟩ := st
    obtain ⟨xs, x, hq, hx⟩ := hg
    obtain ⟨its, rv, p, hz⟩ := I.list hq
    obtain ⟨u, hu, ru⟩ := rv.get hx
    have hel : e < s.heap.objs.size := Heap.lt_size he
    have hil : it < s.heap.objs.size := by obtain ⟨_, q, _⟩ := hit; exact Heap.lt_size q
    refine wpAny_pyNext_enum_item he hit p.isList (x := u) (by simpa using hu) hne fun h' ho hit' hT hsz hk => ?_
    refine ⟨_, rfl, wpAny_letOwnedTupleGo_enum (s := { s with heap := h', toks := s.toks + 1 }) ho fun h'' he' sb => ?_⟩
    have hT2 : h''.get? s.heap.objs.size = some { cls := .type "tuple", data := .seq #[.int i s.toks, u] } := (sb.2 _ (Nat.ne_of_gt hel)).trans hT
    have new : ObjOk X.prog X.w (upd H s.heap.objs.size (.tup [.int (i : Nat), x])) h'' s.heap.objs.size (.tup [.int (i : Nat), x]) :=
      ⟨by show 2 ≤ sizeLine; decide, [.int i s.toks, u], .cons ⟨_, rfl⟩ (.cons ru .nil), ⟨_, hT2, rfl, _, rfl⟩⟩
    have I1 : Inv X pins σ (upd H s.heap.objs.size (.tup [.int (i : Nat), x])) { s with heap := h'', toks := s.toks + 1 } :=
      I.turnedNew (ch := [e, it]) (fun b ob hb q => (sb.2 b (fun z => hb (by simp [z]))).trans (hk b ob (fun z => hb (by simp [z])) (fun z => hb (by simp [z])) q)) hf (Nat.le_refl _) new
    refine ⟨.ref s.heap.objs.size, _, I1, rfl, ⟨_, x, rfl, I.hok.fresh (Nat.le_refl _), rfl, fun ys hy => by rw [I.list_inj hy hq]; exact hx⟩, ⟨⟨u, ?_⟩, hit'.at fun o q => (sb.2 it (Ne.symm hne)).trans q, hne⟩, fun b hb => ?_⟩
    · have e1 : ((i + 1 : Nat) : Int) = (i : Int) + 1 := by omega
      rw [e1]; exact he'
    · have hb' : b < s.heap.objs.size := by
        have e' : b = e ∨ b = it := by simpa using hb
        rcases e' with z | z
        · rw [z]; exact hel
        · rw [z]; exact hil
      rw [upd_ne (Nat.ne_of_lt hb')]
      exact (hf b hb).1
  done := by
    intro X hP hw hK hc i pins s σ H E I hf st hg
    subst hP hw hK
    obtain ⟨⟨old, he⟩, hit, hne⟩ := st
    obtain ⟨xs, hq, hx⟩ := hg
    obtain ⟨its, rv, p, hz⟩ := I.list hq
    obtain ⟨f0, f1, f2, f3, f4, f5⟩ := hf it (by simp)
    have hl := rv.length
    exact wpAny_pyNext_enum_end (I.ok.hd hc) he hit p.isList (by simp; omega) fun h' eb => ⟨rfl, I.turned (t' := s.toks) (fun b o hb q => eb b o hb q) f0 f1 f3 f4 f5⟩
  self := fun A i s Q E st h => let ⟨⟨_, he⟩, _⟩ := st; wpAny_pyIter_enum he h
def iEnum (K : PySem.W.Frag) (ta : TA) : TI := fun σ H R => ta σ H fun vs H1 => ∃ a xs, vs = [.ref a] ∧ SqL K H1 a xs ∧ R (Ite K a) H1
theorem pi_enum {X : Cx} {e : Expr} {ta : TA} {p pos tpos : Pos} {elts : List Expr} {kk : Nat} (hg : Gl X "enumerate") (hm : X.mg "enumerate" = none) (ha : PA X [e] ta) (hs : starEach [e] X.env = [(false, eval e X.env)] := by rfl) :
    PI X (.Tuple elts kk tpos) (.Call (.Name "enumerate" p) [e] [] pos) (iEnum X.K ta) := by
  intro pins s σ H R I h
  refine Call_ (ld_blt I hg hm boot_enumerate (PyProof.Rows.callWith_type1 (thn (ha pos pins s σ H _ I h) fun us s1 ⟨vs, H1, I1, r1, q1⟩ => ?_) hs rfl))
  obtain ⟨a, xs, ex, hq, q⟩ := q1
  subst ex
  cases r1 with
  | cons r rr =>
    cases rr
    cases r
    obtain ⟨its, rv, p', hz⟩ := I1.list hq
    refine call_enumerate_list p'.isList fun h' he hit hsz hk => wpAny_pyIter_enum he ?_
    have I2 : Inv X pins σ H1 { s1 with heap := h' } := I1.kept (t' := s1.toks) hk
    refine ⟨s1.heap.objs.size + 1, [s1.heap.objs.size + 1, s1.heap.objs.size], _, _, H1, rfl, I2, turn_enum a (s1.heap.objs.size + 1) s1.heap.objs.size, ⟨⟨.none, he⟩, hit, Nat.succ_ne_self _⟩, fun b hb => ?_, q⟩
    have e' : b = s1.heap.objs.size + 1 ∨ b = s1.heap.objs.size := by simpa using hb
    have hle : s1.heap.objs.size ≤ b := by
      rcases e' with z | z
      · rw [z]; exact Nat.le_add_right _ _
      · rw [z]; exact Nat.le_refl _
    exact I1.fpOk hle (I1.hok.fresh hle)
/-! ### zip(list, list) -/
/-- the lists at a and b as they stand at each turn, the items in new pairs -/
def Itz (K : PySem.W.Frag) (a b : Addr) : It :=
  ⟨fun i H => ∃ (xs ys : List V) (x y : V), SqL K H a xs ∧ SqL K H b ys ∧ xs[i]? = some x ∧ ys[i]? = some y,
    fun i H v H' => ∃ T x y, v = .ref T ∧ H T = none ∧ H' = upd H T (.tup [x, y]) ∧ (∀ xs, SqL K H a xs → xs[i]? = some x) ∧ ∀ ys, SqL K H b ys → ys[i]? = some y,
    fun i H => ∃ xs ys : List V, SqL K H a xs ∧ SqL K H b ys ∧ (xs.length ≤ i ∨ ys.length ≤ i)⟩
def iZip (K : PySem.W.Frag) (ta : TA) : TI := fun σ H R => ta σ H fun vs H1 => ∃ a b xs ys, vs = [.ref a, .ref b] ∧ SqL K H1 a xs ∧ SqL K H1 b ys ∧ R (Itz K a b) H1
end L2
section 
namespace Bits
open PySem PyProof.Rows
end Bits
end 
section 
namespace TL
open PySem PySem.Builtin PySem.Builtin.Str PySem.StrLaws
abbrev tl (x : Str) : List Nat := x.cps.toList
theorem len_tl (x : Str) : x.length = (tl x).length := by simp [tl, Str.length]
theorem ext_tl {x y : Str} (h : tl x = tl y) : x = y := Str.ext' (Array.toList_inj.mp h)
theorem tl_append (x y : Str) : tl (x ++ y) = tl x ++ tl y := by
  show (x ++ y).cps.toList = _
  rw [Str.cps_append, Array.toList_append]
theorem map_tl_inj : ∀ {l m : List Str}, l.map tl = m.map tl → l = m
  | [], [], _ => rfl
  | [], _ :: _, h => by simp at h
  | _ :: _, [], h => by simp at h
  | x :: l, y :: m, h => by
    rw [List.map_cons, List.map_cons] at h
    injection h with h1 h2
    rw [ext_tl h1, map_tl_inj h2]
/-! ### the list functions -/
/-- S stands at the head of l -/
def pre (S l : List Nat) : Bool := l.take S.length == S
/-- l cut at each S from the left; k signs are still to be passed over -/
def spl (S : List Nat) : Nat → List Nat → List Nat → List (List Nat)
  | _, acc, [] => [acc]
  | 0, acc, c :: r => if pre S (c :: r) = true then acc :: spl S (S.length - 1) [] r else spl S 0 (acc ++ [c]) r
  | k + 1, acc, _ :: r => spl S k acc r
/-- what stands before the first S, and behind it -/
def par (S : List Nat) : List Nat → List Nat → Option (List Nat × List Nat)
  | _, [] => none
  | acc, c :: r => if pre S (c :: r) = true then some (acc, (c :: r).drop S.length) else par S (acc ++ [c]) r
theorem spl_nil (S : List Nat) (k : Nat) (acc : List Nat) : spl S k acc [] = [acc] := by cases k <;> rfl
theorem spl_hit {S acc r : List Nat} {c : Nat} (h : pre S (c :: r) = true) : spl S 0 acc (c :: r) = acc :: spl S (S.length - 1) [] r := by
  show (if pre S (c :: r) = true then acc :: spl S (S.length - 1) [] r else spl S 0 (acc ++ [c]) r) = _
  rw [if_pos h]
theorem spl_miss {S acc r : List Nat} {c : Nat} (h : pre S (c :: r) = false) : spl S 0 acc (c :: r) = spl S 0 (acc ++ [c]) r := by
  show (if pre S (c :: r) = true then acc :: spl S (S.length - 1) [] r else spl S 0 (acc ++ [c]) r) = _
  rw [if_neg (by rw [h]; exact Bool.false_ne_true)]
theorem spl_pass (S : List Nat) : ∀ (k : Nat) (acc l : List Nat), spl S k acc l = spl S 0 acc (l.drop k)
  | 0, _, _ => by rw [List.drop_zero]
  | k + 1, acc, [] => by rw [List.drop_nil, spl_nil, spl_nil]
  | k + 1, acc, c :: r => by
    show spl S k acc r = spl S 0 acc (r.drop k)
    exact spl_pass S k acc r
theorem pre_nil {S : List Nat} (hS : S ≠ []) : pre S [] = false := by
  cases S with
  | nil => exact absurd rfl hS
  | cons s S => rfl
theorem pre_of_head {s c : Nat} (S r : List Nat) (h : c ≠ s) : pre (s :: S) (c :: r) = false := by
  cases hp : pre (s :: S) (c :: r) with
  | false => rfl
  | true =>
    have e : (c :: r).take (s :: S).length = s :: S := eq_of_beq hp
    rw [List.length_cons, List.take_succ_cons] at e
    injection e with e1 e2
    exact absurd e1 h
theorem pre_self (S r : List Nat) : pre S (S ++ r) = true := by
  show ((S ++ r).take S.length == S) = true
  have e : (S ++ r).take S.length = S := List.take_left
  rw [e] <;> exact beq_self_eq_true S
theorem getElem_drop_cons {L : List Nat} {a : Nat} (h : a < L.length) : ∃ c, L.drop a = c :: L.drop (a + 1) := ⟨L[a], List.drop_eq_getElem_cons h⟩
theorem spl_run (S L : List Nat) : ∀ (m a : Nat) (acc : List Nat), a + m ≤ L.length → (∀ k, a ≤ k → k < a + m → pre S (L.drop k) = false) →
    spl S 0 acc (L.drop a) = spl S 0 (acc ++ (L.drop a).take m) (L.drop (a + m))
  | 0, a, acc, _, _ => by rw [List.take_zero, List.append_nil, Nat.add_zero]
  | m + 1, a, acc, h, hn => by
    have hlt : a < L.length := by omega
    obtain ⟨c, e⟩ := getElem_drop_cons hlt
    have h0 := hn a (Nat.le_refl _) (by omega)
    have ih := spl_run S L m (a + 1) (acc ++ [c]) (by omega) (fun k h1 h2 => hn k (by omega) (by omega))
    have e2 : a + 1 + m = a + (m + 1) := by omega
    rw [e2] at ih
    rw [e] at h0
    rw [e, spl_miss h0, ih, List.take_succ_cons, List.append_assoc] <;> rfl
theorem drop_two (L : List Nat) (a b : Nat) : (L.drop a).drop b = L.drop (a + b) := by
  first
    | rw [List.drop_drop]
    | rw [List.drop_drop, Nat.add_comm]
theorem spl_at {S L : List Nat} (hS : S ≠ []) {c : Nat} {acc : List Nat} (h : pre S (L.drop c) = true) : spl S 0 acc (L.drop c) = acc :: spl S 0 [] (L.drop (c + S.length)) := by
  rw [← drop_two]
  cases e : L.drop c with
  | nil => rw [e, pre_nil hS] at h; cases h
  | cons d r =>
    rw [e] at h
    rw [spl_hit h, spl_pass]
    cases S with
    | nil => exact absurd rfl hS
    | cons s S => rfl
/-! ### the model's split and partition are these -/
theorem at_iff {x y : Str} (hy : tl y ≠ []) (i : Nat) : At x y x.length i ↔ pre (tl y) ((tl x).drop i) = true := by
  have hx := len_tl x
  have hl := len_tl y
  constructor
  · intro h
    have h2 := h.2
    rw [subAt_eq, hl] at h2
    exact h2
  · intro h
    have e : ((tl x).drop i).take (tl y).length = tl y := eq_of_beq h
    have e1 := congrArg List.length e
    rw [List.length_take, List.length_drop] at e1
    have e2 : 0 < (tl y).length := List.length_pos_iff.mpr hy
    refine ⟨by omega, ?_⟩
    rw [subAt_eq, hl]
    exact h
theorem no_at {x y : Str} (hy : tl y ≠ []) {i : Nat} (h : ¬ At x y x.length i) : pre (tl y) ((tl x).drop i) = false := by
  cases hp : pre (tl y) ((tl x).drop i) with
  | false => rfl
  | true => exact absurd ((at_iff hy i).mpr hp) h
theorem len1 {y : Str} (hy : tl y ≠ []) : 1 ≤ y.length := by
  have e2 : 0 < (tl y).length := List.length_pos_iff.mpr hy
  rw [len_tl y]
  exact e2
theorem tl_strSub (x : Str) (i j : Nat) : tl (strSub x i j) = ((tl x).drop i).take (j - i) := strSub_toList x i j
theorem tl_strSub_end (x : Str) (i : Nat) : tl (strSub x i x.length) = (tl x).drop i := by
  rw [tl_strSub, len_tl x]
  exact List.take_of_length_le (by rw [List.length_drop] <;> omega)
theorem parts_spl {x y : Str} (hy : tl y ≠ []) : ∀ (cuts : List Nat) (a f : Nat), a ≤ (tl x).length → ChainG x y x.length a cuts f → (∀ k, f ≤ k → ¬ At x y x.length k) →
    (partsFrom x y.length a cuts).map tl = spl (tl y) 0 [] ((tl x).drop a)
  | [], a, f, ha, h, hn => by
    have e : f = a := h
    subst e
    show [tl (strSub x f x.length)] = _
    have run := spl_run (tl y) (tl x) ((tl x).length - f) f [] (by omega) (fun k h1 _ => no_at hy (hn k h1))
    have e2 : f + ((tl x).length - f) = (tl x).length := by omega
    rw [e2, List.drop_length, spl_nil, List.nil_append, List.take_of_length_le (by rw [List.length_drop] <;> omega)] at run
    rw [run, tl_strSub_end]
  | c :: r, a, f, ha, h, hn => by
    obtain ⟨h1, h2, h3, h4⟩ := h
    have hc : c + y.length ≤ x.length := h2.1
    have hx := len_tl x
    have hl := len_tl y
    have ih := parts_spl hy r (c + y.length) f (by omega) h4 hn
    show tl (strSub x a c) :: (partsFrom x y.length (c + y.length) r).map tl = _
    have run := spl_run (tl y) (tl x) (c - a) a [] (by omega) (fun k k1 k2 => no_at hy (h3 k k1 (by omega)))
    have e2 : a + (c - a) = c := by omega
    rw [e2, List.nil_append, spl_at hy ((at_iff hy c).mp h2)] at run
    rw [run, ih, tl_strSub, hl]
/-- hk: by kind_ok where the separator is plain -/
theorem split_spl (x y : Str) (hy : tl y ≠ []) (hk : ¬ Builtin.Str.strKind x < Builtin.Str.strKind y) : (Txt.split x y).map tl = spl (tl y) 0 [] (tl x) := by
  obtain ⟨f, g, hn⟩ := occ_tight x y (len1 hy)
  have key := parts_spl hy _ 0 f (Nat.zero_le _) g hn
  rw [List.drop_zero] at key
  have none_case : occurrences x y 0 x.length (x.length + 1) = [] → [x].map tl = spl (tl y) 0 [] (tl x) := fun ho => by
    rw [ho] at key
    rw [← key]
    show [tl x] = [tl (strSub x 0 x.length)]
    rw [sub_whole]
  unfold Txt.split
  by_cases h1 : (decide (x.length < y.length) || decide (Builtin.Str.strKind x < Builtin.Str.strKind y)) = true
  · rw [if_pos h1]
    have hlt : x.length < y.length := by
      simp only [Bool.or_eq_true, decide_eq_true_eq] at h1
      rcases h1 with h | h
      · exact h
      · exact absurd h hk
    refine none_case ?_
    cases ho : occurrences x y 0 x.length (x.length + 1) with
    | nil => rfl
    | cons c r =>
      rw [ho] at g
      have hc : c + y.length ≤ x.length := g.2.1.1
      omega
  · rw [if_neg h1]
    by_cases h2 : (occurrences x y 0 x.length (x.length + 1)).isEmpty = true
    · rw [if_pos h2]
      exact none_case (List.isEmpty_iff.mp h2)
    · rw [if_neg h2, partsBetween_eq]
      exact key
theorem kind_ok {x y : Str} (h : y.cps.all (· < 256) = true) : ¬ Builtin.Str.strKind x < Builtin.Str.strKind y := by
  have e : Builtin.Str.strKind y = 1 := by unfold PySem.Builtin.Str.strKind; rw [if_pos h]
  rw [e]
  unfold PySem.Builtin.Str.strKind
  split
  · omega
  · split <;> omega
/-! ### computing spl and par -/
/-- a part that the separator does not begin in, then the separator -/
theorem spl_part {S p rest acc : List Nat} (hS : S ≠ []) (h : ∀ i, i < p.length → pre S ((p ++ (S ++ rest)).drop i) = false) :
    spl S 0 acc (p ++ (S ++ rest)) = (acc ++ p) :: spl S 0 [] rest := by
  have run := spl_run S (p ++ (S ++ rest)) p.length 0 acc (by rw [List.length_append]; omega) (fun k _ k2 => h k (by omega))
  have ed : (p ++ (S ++ rest)).drop p.length = S ++ rest := List.drop_left
  rw [List.drop_zero, Nat.zero_add, List.take_left] at run
  rw [run, spl_at hS (by rw [ed]; exact pre_self S rest), ← drop_two, ed, List.drop_left]
theorem spl_last {S p acc : List Nat} (h : ∀ i, i < p.length → pre S (p.drop i) = false) : spl S 0 acc p = [acc ++ p] := by
  have run := spl_run S p p.length 0 acc (by omega) (fun k _ k2 => h k (by omega))
  rw [List.drop_zero, Nat.zero_add, List.drop_length, spl_nil, List.take_length] at run
  exact run
/-- the separator's first sign is not in the part -/
theorem free_of {s : Nat} {S p q : List Nat} (h : s ∉ p) : ∀ i, i < p.length → pre (s :: S) ((p ++ q).drop i) = false := fun i hi => by
  have hlt : i < (p ++ q).length := by rw [List.length_append]; omega
  have e : (p ++ q).drop i = (p ++ q)[i] :: (p ++ q).drop (i + 1) := List.drop_eq_getElem_cons hlt
  rw [e]
  refine pre_of_head _ _ fun z => h ?_
  have e1 : (p ++ q)[i] = p[i] := List.getElem_append_left hi
  rw [← z, e1]
  exact List.getElem_mem hi
theorem spl_part1 {s : Nat} {S p rest acc : List Nat} (h : s ∉ p) : spl (s :: S) 0 acc (p ++ (s :: S ++ rest)) = (acc ++ p) :: spl (s :: S) 0 [] rest :=
  spl_part (by simp) (free_of h)
theorem spl_last1 {s : Nat} {S p acc : List Nat} (h : s ∉ p) : spl (s :: S) 0 acc p = [acc ++ p] := spl_last fun i hi => by
  have z := free_of (S := S) (q := []) h i hi
  rw [List.append_nil] at z
  exact z
/-- joined lists -/
def joinL (S : List Nat) : List (List Nat) → List Nat
  | [] => []
  | [p] => p
  | p :: q :: r => p ++ (S ++ joinL S (q :: r))
theorem tl_join (y : Str) : ∀ parts : List Str, tl (Str.join y parts) = joinL (tl y) (parts.map tl)
  | [] => rfl
  | [_] => rfl
  | x :: z :: r => by
    show tl (x ++ y ++ Str.join y (z :: r)) = tl x ++ (tl y ++ joinL (tl y) ((z :: r).map tl))
    rw [tl_append, tl_append, tl_join y (z :: r), List.append_assoc]
theorem spl_join {s : Nat} {S : List Nat} : ∀ {parts : List (List Nat)}, parts ≠ [] → (∀ p ∈ parts, s ∉ p) → spl (s :: S) 0 [] (joinL (s :: S) parts) = parts
  | [], h, _ => absurd rfl h
  | [p], _, hp => by
    show spl (s :: S) 0 [] p = [p]
    rw [spl_last1 (hp p (List.mem_singleton.mpr rfl)), List.nil_append]
  | p :: q :: r, _, hp => by
    show spl (s :: S) 0 [] (p ++ (s :: S ++ joinL (s :: S) (q :: r))) = p :: q :: r
    rw [spl_part1 (hp p (List.mem_cons_self ..)), List.nil_append, spl_join (by simp) fun z hz => hp z (List.mem_cons_of_mem _ hz)]
theorem join_eq (y : Str) (parts : List Str) : Txt.join y parts = Str.join y parts := glued_eq_join y parts
/-- THE READ-BACK: a joined text, split -/
theorem split_join {y : Str} {s : Nat} {S : List Nat} (ey : tl y = s :: S) (hk : y.cps.all (· < 256) = true) {parts : List Str} (hne : parts ≠ []) (hp : ∀ p ∈ parts, s ∉ tl p) :
    Txt.split (Txt.join y parts) y = parts := by
  refine map_tl_inj ?_
  rw [split_spl _ y (by rw [ey]; simp) (kind_ok hk), join_eq, tl_join, ey]
  refine spl_join (fun e => hne (List.map_eq_nil_iff.mp e)) fun p h => ?_
  obtain ⟨z, hz, rfl⟩ := List.mem_map.mp h
  exact hp z hz
/-! ### digits -/
/-- the signs of a number -/
def numL (n : Nat) : List Nat := (Nat.toDigits 10 n).map Char.toNat
theorem tl_num (n : Nat) : tl (Str.ofString (toString ((n : Nat) : Int))) = numL n := PySem.W.KIN.signs_num n
theorem digitChar_nat : ∀ d : Nat, d < 10 → (Nat.digitChar d).toNat = 48 + d := by decide
theorem numL_lt {n : Nat} (h : n < 10) : numL n = [48 + n] := by
  unfold numL
  rw [Nat.toDigits_of_lt_base h]
  show [(Nat.digitChar n).toNat] = _
  rw [digitChar_nat n h]
theorem numL_step {n : Nat} (h : 10 ≤ n) : numL n = numL (n / 10) ++ [48 + n % 10] := by
  have hm : n % 10 < 10 := Nat.mod_lt n (by decide)
  have t : Nat.toDigits 10 (n / 10) ++ Nat.toDigits 10 (n % 10) = Nat.toDigits 10 (10 * (n / 10) + n % 10) := Nat.toDigits_append_toDigits (by decide) (by omega) hm
  rw [Nat.div_add_mod] at t
  show (Nat.toDigits 10 n).map Char.toNat = _
  rw [← t, List.map_append, Nat.toDigits_of_lt_base hm]
  show (Nat.toDigits 10 (n / 10)).map Char.toNat ++ [(Nat.digitChar (n % 10)).toNat] = _
  rw [digitChar_nat _ hm] <;> rfl
/-! ### words: x.split() -/
def wstep (st : List (List Nat) × List Nat) (c : Nat) : List (List Nat) × List Nat :=
  if Unicode.isSpace c = true then (if st.2 = [] then st else (st.1 ++ [st.2], [])) else (st.1, st.2 ++ [c])
def wfin (st : List (List Nat) × List Nat) : List (List Nat) := if st.2 = [] then st.1 else st.1 ++ [st.2]
end TL
end 
namespace L2
open PySem PySem.Spec PyProof.Rows
theorem strs_of_vals : ∀ {ys : List Str} {us : List Value}, Vals (ys.map V.str) us → StrsAre us ys
  | [], _, .nil => .nil
  | y :: ys, _, .cons r t => by
    obtain ⟨k, rfl⟩ := r
    exact .cons y k (strs_of_vals t)
/-- a new list of texts, tracked -/
def rNewStrs (ys : List Str) : Hp → VK → Prop := fun H Q => ∀ p, H p = none → Q (.ref p) (upd H p (.lst (ys.map V.str)))
section
variable {X : Cx} {pins : List (Addr × Obj)} {σ : St} {H : Hp} {s : Shared} {Q : VK}
end
section
variable {X : Cx}
/-- sep.join(a list | a tuple of texts) -/
theorem mt_join : MtR X "str.join" (fun x xs H Q => ∃ a p, ∃ ys : List Str, x = .str a ∧ xs = [.ref p] ∧ (SqL X.K H p (ys.map V.str) ∨ SqT X.K H p (ys.map V.str)) ∧
    (ys.map (·.length)).sum + ys.length * a.length ≤ 16777216 ∧ Q (.str (Txt.join a ys)) H) := by
  intro pins s σ H x xs v us Q I rx rs h
  obtain ⟨a, p, ys, rfl, rfl, hp, hz, h⟩ := h
  obtain ⟨t, rfl⟩ := rx
  cases rs with
  | cons r1 rs =>
    cases rs
    cases r1
    rcases hp with hp | hp
    · obtain ⟨its, r, ⟨o, n, ho, hc, _, hd⟩, _⟩ := I.list hp
      exact PyProof.Rows.join_list (items := its.toArray) ⟨o, ho, hc, n, hd⟩ (by rw [List.toList_toArray]; exact strs_of_vals r) hz fun t' k => ⟨.str _, H, I.tok k, ⟨t', rfl⟩, h⟩
    · obtain ⟨its, r, ht, _⟩ := I.tuple hp
      exact PyProof.Rows.join_tuple (items := its.toArray) ht (by rw [List.toList_toArray]; exact strs_of_vals r) hz fun t' k => ⟨.str _, H, I.tok k, ⟨t', rfl⟩, h⟩
/-! ### of a text alone -/
/-! ### of a text and a text -/
end
section
variable {X : Cx} {o e : Expr} {to te : TE}
def tM0 (r : V → List V → Hp → VK → Prop) (to : TE) : TE := fun σ H Q => to σ H fun x H1 => (∃ a, x = .str a) ∧ r x [] H1 Q
def tM1 (r : V → List V → Hp → VK → Prop) (to te : TE) : TE := fun σ H Q => to σ H fun x H1 => (∃ a, x = .str a) ∧ te σ H1 fun y H2 => r x [y] H2 Q
theorem pe_m1 {id : String} {name : Str} {apos pos : Pos} {r : V → List V → Hp → VK → Prop} (slot : Slot "str" name id) (ty : typeOf (.builtin id) = pure (.type "method_descriptor")) (rule : MtR X id r) (ho : PE X o to) (he : PE X e te)
    (hs : starEach [e] X.env = [(false, eval e X.env)] := by rfl) (hbase : attributeBase o name X.env (eval o X.env) = eval o X.env := by rfl) (hline : (apos.endLine == pos.line) = true := by rfl) :
    PE X (.Call (.Attribute o name apos) [e] [] pos) (tM1 r to te) := by
  intro pins s σ H Q I h
  refine PySem.Call_method1 hbase hs hline (thn (ho pins s σ H _ I h) fun v s1 ⟨x, H1, I1, r1, q1⟩ => ?_)
  obtain ⟨⟨a, rfl⟩, q1⟩ := q1
  obtain ⟨t, rfl⟩ := _root_.id r1
  refine ⟨"str", _, F.plainAttrs_str, slot, ty, typeIs_str _ _ _, (fun _ e => nomatch e), Calls.callWith_builtin rfl (Calls.evalArgs_plain (Calls.spliced_cons ?_))⟩
  exact thn (he pins s1 σ H1 _ I1 q1) fun u s2 ⟨y, H2, I2, r2, q2⟩ => Calls.spliced_nil (rule pins s2 σ H2 _ [y] _ [u] Q I2 r1 (.cons r2 .nil) q2)
theorem pe_join {apos pos : Pos} (ho : PE X o to) (he : PE X e te) (hs : starEach [e] X.env = [(false, eval e X.env)] := by rfl) (hbase : attributeBase o "join" X.env (eval o X.env) = eval o X.env := by rfl) (hline : (apos.endLine == pos.line) = true := by rfl) :
    PE X (.Call (.Attribute o "join" apos) [e] [] pos) (tM1 (fun x xs H Q => ∃ a p, ∃ ys : List Str, x = .str a ∧ xs = [.ref p] ∧ (SqL X.K H p (ys.map V.str) ∨ SqT X.K H p (ys.map V.str)) ∧
      (ys.map (·.length)).sum + ys.length * a.length ≤ 16777216 ∧ Q (.str (Txt.join a ys)) H) to te) :=
  pe_m1 F.slot_str_join F.type_str_join mt_join ho he hs hbase hline
end
end L2
namespace L2
open PySem PySem.Spec PyProof.Rows
section
variable {X : Cx}
end
/-! ### slices of a text -/
theorem IsPart.raw {v : Value} {o : Option Int} (p : IsPart v o) : ∃ l : Option (Int × Tok), v = partValue l ∧ l.map (·.1) = o := by
  cases p with
  | none => exact ⟨none, rfl, rfl⟩
  | int i t => exact ⟨some (i, t), rfl, rfl⟩
/-- a part, clipped, as the text's slice reckons it -/
def clipS (n d : Nat) : Option Int → Int
  | none => (d : Int)
  | some i => max 0 (min (if i < 0 then i + (n : Int) else i) (n : Int))
/-- z[lo:hi] -/
def cutS (z : Str) (lo hi : Option Int) : Str :=
  ⟨((z.cps.toList.drop (HT.sIx z.length 0 lo)).take (HT.sIx z.length z.length hi - HT.sIx z.length 0 lo)).toArray⟩
def rSlS : V → Option Int → Option Int → Hp → VK → Prop := fun x lo hi H Q => ∃ z, x = .str z ∧ z.length ≤ sizeLine ∧ Q (.str (cutS z lo hi)) H
end L2
namespace Att
open PySem PySem.W PySem.Calls PyProof.Rows
/-! ### the script -/
/-! ### the attachment: holds_open's last premise (the goal 'hc' behind k_head) from a wpAny of the law's body -/
/-! ### rules over ANY heap (no ledger) from facts about the written part K: the library's own take a ledger (News) for what they write -/
section
variable {prog : Program} {w : World} {A : Around} {E : Value → Shared → Prop} {s : Shared} {K : Frag}
/-! the whole heap as the ledger: makes every rule that writes through a ledger a rule over any heap -/
def noObjs (h : Heap) : Heap := { h with objs := #[] }
def ledger (h : Heap) (L d : Addr) : List (Addr × Obj) := (List.range h.objs.size).filterMap fun a => if a = L ∨ a = d then none else (h.get? a).map fun o => (a, o)
end
end Att
namespace L2
open PySem PySem.Spec PyProof.Rows
/-- nothing is tracked but the script, known to the object (or it is an object of the module) -/
def Only (H : Hp) : Prop := ∀ b, H b = none ∨ ∃ o xs, H b = some (.frz o (.lst xs))
end L2
namespace L2
open PySem PySem.Spec PyProof.Rows
abbrev KOf {K : PySem.W.Frag} {h : Heap} (_ : K.In h) : PySem.W.Frag := K
end L2
/-! SHORT WORDS over the layer: a def of the text, its body, what a loop and a test want. -/
namespace L2
open PySem PySem.Spec PyProof.Rows
/-! ### the text by places -/
/-! ### no exception leaves a def -/
abbrev CX0 : CXT := fun _ _ _ _ _ _ => False
abbrev E0 : XK := fun _ _ _ => False
theorem pass0 {X : Cx} : Passes CX0 X E0 := fun _ _ _ _ _ _ _ h => h.elim
/-! ### a def (or method) of the text as it stands behind the top -/
structure Fun (K : PySem.W.Frag) (x qual : Str) (st : Stmt) (f : Addr) (fd : FuncData) : Prop where
  ex : ∃ (oc : Value) (od : Option Addr) (kV doc pm : Value) (an : Option Addr) (cdv ct : Value) (osl : Array (Option Value)),
    fd = PySem.W.fnOf x qual (defArgs st) (defBody st) (defScope st) .none kV doc pm an cdv ct ∧ K.lookup f = some ⟨oc, od, .func fd, osl⟩ ∧ PySem.W.codeIn K cdv qual = true
  kp : PySem.W.keepIn K (.ref f) = true
section
variable {P : Program} {w : World} {K : PySem.W.Frag} {mg : Str → Option Value} {base : Heap}
/-- THE RULE for a def: its body as a term of rules, and the reading of that term -/
theorem Fun.ok {x qual : Str} {st : Stmt} {f : Addr} {fd : FuncData} {N ps : List Str} {k : Nat} {sp : Sp} (F : Fun K x qual st f fd) (S : FnScope N ps (defScope st)) (len : ∀ vs H Q E, sp vs H Q E → vs.length = ps.length)
    (hbody : ∀ (cdv : Value) (A : Around) (outer : List Env) (s : Shared) (H : Hp) (vs : List V) (Q : VK) (E : XK), Room k (A.deeper (envOfC qual (defScope st) s.heap.objs.size f cdv)) → sp vs H Q E →
      ∃ t, PSs (cxOf CX0 P w K mg base N qual (defScope st) f cdv A outer s H E).nox (defBody st) t ∧ t { nx := fun _ H' => Q .non H', rt := Q } (start N vs) H) : FnOk P w K mg base CX0 (k + 1) f fd ps sp := by
  obtain ⟨oc, od, kV, doc, pm, an, cdv, ct, osl, rfl, lk, hcd⟩ := F.ex
  refine fn_of lk hcd S len fun A outer s H vs Q E hr hsp => ?_
  obtain ⟨t, h, q⟩ := hbody cdv A outer s H vs Q E hr hsp
  exact ⟨t, h.nox, q⟩
/-- how its arguments bind (no defaults): h is «fun _ _ _ _ _ _ us hl => match us, hl with | [_, _], _ => rfl», one _ a parameter -/
theorem Fun.binds {x qual : Str} {st : Stmt} {f : Addr} {fd : FuncData} {ps : List Str} (F : Fun K x qual st f fd)
    (h : ∀ (kV doc pm : Value) (an : Option Addr) (cdv ct : Value) (us : List Value), us.length = ps.length → bindArgs (PySem.W.fnOf x qual (defArgs st) (defBody st) (defScope st) .none kV doc pm an cdv ct) ⟨us, []⟩ = pure (ps.zip us)) : Binds K fd ps [] := by
  obtain ⟨oc, od, kV, doc, pm, an, cdv, ct, osl, rfl, lk, hcd⟩ := F.ex
  exact .all (h kV doc pm an cdv ct)
theorem fun_mk {x qual : Str} {st : Stmt} {f : Addr} {oc : Value} {od an : Option Addr} {osl : Array (Option Value)} {kV doc pm cdv ct : Value} (l : K.lookup f = some ⟨oc, od, .func (PySem.W.fnOf x qual (defArgs st) (defBody st) (defScope st) .none kV doc pm an cdv ct), osl⟩)
    (c : PySem.W.codeIn K cdv qual = true) (k : PySem.W.keepIn K (.ref f) = true) : Fun K x qual st f (PySem.W.fnOf x qual (defArgs st) (defBody st) (defScope st) .none kV doc pm an cdv ct) := ⟨⟨oc, od, kV, doc, pm, an, cdv, ct, osl, rfl, l, c⟩, k⟩
end
/-! ### expressions in short: the name that stands in the i-th slot -/
section
variable {X : Cx}
theorem pv (i : Nat) {x : Str} {pos : Pos} (hN : X.N[i]? = some x := by rfl) (hv : Vis X.env.scope x := by first | exact Or.inl rfl | exact Or.inr (Or.inl rfl) | exact Or.inr (Or.inr rfl)) (hd : (x == ("__debug__" : Str)) = false := by decide)
    (hcd : (x == ("__classdict__" : Str)) = false := by decide) : PE X (.Name x pos) (tVar i) := pe_var hN hv hd hcd
end
/-! ### tests -/
theorem iteF {A B : Prop} (h : B) : if false = true then A else B := by
  rw [if_neg Bool.false_ne_true]
  exact h
theorem iteT {A B : Prop} (h : A) : if true = true then A else B := by
  rw [if_pos rfl]
  exact h
/-! ### heaps -/
/-- all that was tracked is as it was -/
def Same (H H' : Hp) : Prop := ∀ b o, H b = some o → H' b = some o
theorem Same.refl (H : Hp) : Same H H := fun _ _ h => h
theorem Same.trans {H H1 H2 : Hp} (a : Same H H1) (b : Same H1 H2) : Same H H2 := fun c o h => b c o (a c o h)
theorem Same.free {H H' : Hp} (e : Same H H') {l : Addr} (h : H' l = Option.none) : H l = Option.none := by
  cases q : H l with
  | none => rfl
  | some o =>
    rw [e l o q] at h
    cases h
theorem Same.seq {K : PySem.W.Frag} {H H' : Hp} {a : Addr} {xs : List V} (e : Same H H') (h : SqL K H a xs) : SqL K H' a xs := by
  rcases h with (h | ⟨o, h⟩) | h
  · exact .inl (.inl (e _ _ h))
  · exact .inl (.inr ⟨o, e _ _ h⟩)
  · exact .inr h
/-! ### a dict's pairs: keys that differ -/
section
variable {κ : Type} [DecidableEq κ]
end
/-! ### lists -/
theorem at_of {xs : List V} {z : Int} {j : Nat} {v : V} (e : z = (j : Int)) (h : xs[j]? = some v) : atI xs z = some v := by
  rw [e]
  exact atI_nat h
/-- a new instance and its __init__ leave all that was tracked as it was -/
theorem Same.made {H H1 : Hp} {x dx C : Addr} (nx : H x = Option.none) (nd : H dx = Option.none) (k : ∀ b o, (upd (upd H dx (.own x)) x (.ins C dx [])) b = some o → b ≠ x → H1 b = some o) : Same H H1 := fun b o e =>
  k b o (by rw [upd_ne (ne_of_none e nx), upd_ne (ne_of_none e nd)]; exact e) (ne_of_none e nx)
end L2
section
set_option Elab.async false
set_option linter.all false
set_option maxRecDepth 100000
set_option maxHeartbeats 2000000
namespace L2
open PySem PySem.Spec PyProof.Rows
open PySem.W (WData Codec OpenSpec Well WellAll ReadsW ReadsAllW)
/-! ### an answer as data -/
mutual
/-- x stands for the datum d, lists and tuples all the way -/
inductive Dw (K : PySem.W.Frag) (H : Hp) : V → WData → Prop
  | non : Dw K H .non .none
  | bl (b : Bool) : Dw K H (.bl b) (.bool b)
  | int (i : Int) : Dw K H (.int i) (.int i)
  | str (x : Str) : Dw K H (.str x) (.str x)
  | byt (b : Array UInt8) : Dw K H (.byt b) (.bytes b.toList)
  | lst {a : Addr} {xs : List V} {ds : List WData} : SqL K H a xs → DwAll K H xs ds → Dw K H (.ref a) (.list ds)
  | tup {a : Addr} {xs : List V} {ds : List WData} : SqT K H a xs → DwAll K H xs ds → Dw K H (.ref a) (.tuple ds)
inductive DwAll (K : PySem.W.Frag) (H : Hp) : List V → List WData → Prop
  | nil : DwAll K H [] []
  | cons {v : V} {vs : List V} {d : WData} {ds : List WData} : Dw K H v d → DwAll K H vs ds → DwAll K H (v :: vs) (d :: ds)
end
theorem dw_ints {K : PySem.W.Frag} {H : Hp} : ∀ ns : List Int, DwAll K H (ns.map V.int) (ns.map WData.int)
  | [] => .nil
  | n :: r => .cons (.int n) (dw_ints r)
theorem ints_dw {K : PySem.W.Frag} {H : Hp} : ∀ (ns : List Int) (xs : List V), DwAll K H xs (ns.map WData.int) → xs = ns.map V.int
  | [], xs, h => by
    cases h
    rfl
  | n :: r, xs, h => by
    cases h with
    | cons h1 h2 =>
      cases h1
      rw [ints_dw r _ h2] <;> rfl
section
variable {P : Program} {w : World} {K : PySem.W.Frag} {H : Hp} {h : Heap} {R : PySem.W.WRecords} {cl : Str → Option Addr}
theorem sqL_at {a : Addr} {xs : List V} (hok : HOk P w H h) (KX : K.In h) (q : SqL K H a xs) : ∃ (its : List Value) (o : Obj) (n : Nat), Vals xs its ∧ h.get? a = some o ∧ o.cls = .type "list" ∧ o.data = .seq its.toArray n := by
  rcases q with q | ⟨o, its, n, e, hc, _, hd, _, hv⟩
  · obtain ⟨_, its, n, hv, e⟩ := (show ObjOk P w H h a (.lst xs) from q.ok hok)
    exact ⟨its, _, n, hv, e, rfl, rfl⟩
  · exact ⟨its.toList, o, n, hv, KX _ _ e, hc, by simp [hd]⟩
theorem sqT_at {a : Addr} {xs : List V} (hok : HOk P w H h) (KX : K.In h) (q : SqT K H a xs) : ∃ (its : List Value) (o : Obj) (n : Nat), Vals xs its ∧ h.get? a = some o ∧ o.cls = .type "tuple" ∧ o.data = .seq its.toArray n := by
  rcases q with q | ⟨o, its, n, e, hc, hd, _, hv⟩
  · obtain ⟨_, its, hv, o, e, hc, n, hd⟩ := (show ObjOk P w H h a (.tup xs) from q.ok hok)
    exact ⟨its, o, n, hv, e, hc, hd⟩
  · exact ⟨its.toList, o, n, hv, KX _ _ e, hc, by simp [hd]⟩
mutual
theorem Dw.reads (hok : HOk P w H h) (KX : K.In h) : ∀ (d : WData) (v : V) (u : Value), Dw K H v d → RelV v u → ∃ as, ReadsW R cl h u d as
  | .none, _, _, x, r => by
    cases x
    cases r
    exact ⟨_, ReadsW.none⟩
  | .bool b, _, _, x, r => by
    cases x
    cases r
    exact ⟨_, ReadsW.bool b⟩
  | .int i, _, _, x, r => by
    cases x
    obtain ⟨t, rfl⟩ := r
    exact ⟨_, ReadsW.int i t⟩
  | .str s, _, _, x, r => by
    cases x
    obtain ⟨t, rfl⟩ := r
    exact ⟨_, ReadsW.str s t⟩
  | .bytes b, _, _, x, r => by
    cases x
    obtain ⟨t, rfl⟩ := r
    exact ⟨_, ReadsW.bytes _ t⟩
  | .list ds, _, _, x, r => by
    cases x with
    | lst hs ha =>
      cases r
      obtain ⟨its, o, n, rv, ho, hc, hd⟩ := sqL_at hok KX hs
      obtain ⟨as, hr⟩ := Dw.readsAll hok KX ds _ its ha rv
      exact ⟨_, ReadsW.list ho hc hd hr⟩
  | .tuple ds, _, _, x, r => by
    cases x with
    | tup hs ha =>
      cases r
      obtain ⟨its, o, n, rv, ho, hc, hd⟩ := sqT_at hok KX hs
      obtain ⟨as, hr⟩ := Dw.readsAll hok KX ds _ its ha rv
      exact ⟨_, ReadsW.tuple ho hc hd hr⟩
  | .float _, _, _, x, _ => by cases x
  | .dict _, _, _, x, _ => by cases x
  | .bytearray _, _, _, x, _ => by cases x
  | .set _, _, _, x, _ => by cases x
  | .frozenset _, _, _, x, _ => by cases x
  | .obj _ _, _, _, x, _ => by cases x
theorem Dw.readsAll (hok : HOk P w H h) (KX : K.In h) : ∀ (ds : List WData) (vs : List V) (us : List Value), DwAll K H vs ds → Vals vs us → ∃ as, ReadsAllW R cl h us ds as
  | [], _, _, x, r => by
    cases x
    cases r
    exact ⟨_, ReadsAllW.nil⟩
  | d :: ds, _, _, x, r => by
    cases x with
    | cons h1 h2 =>
      cases r with
      | cons r1 r2 =>
        obtain ⟨as, q1⟩ := Dw.reads hok KX d _ _ h1 r1
        obtain ⟨bs, q2⟩ := Dw.readsAll hok KX ds _ _ h2 r2
        exact ⟨_, ReadsAllW.cons q1 q2⟩
end
end
/-! ### the arguments -/
mutual
/-- data that a codec tells -/
def plW : WData → Bool
  | .none => true
  | .bool _ => true
  | .int _ => true
  | .str _ => true
  | .bytes _ => true
  | .list xs => plWs xs
  | .tuple xs => plWs xs
  | _ => false
def plWs : List WData → Bool
  | [] => true
  | x :: r => plW x && plWs r
end
theorem plWs_map {α : Type} {f : α → WData} (h : ∀ a, plW (f a) = true) : ∀ l : List α, plWs (l.map f) = true
  | [] => rfl
  | x :: r => by
    show (plW (f x) && plWs (r.map f)) = true
    rw [h x, plWs_map h r] <;> rfl
theorem pl_enc : ∀ (c : Codec) (a : c.denote), plW (c.enc a) = true
  | .unit, _ => rfl
  | .bool, _ => rfl
  | .int _ _, _ => rfl
  | .nat _ _, _ => rfl
  | .u8, _ => rfl
  | .bytes _ _, _ => rfl
  | .text _ _ _ _, _ => rfl
  | .list _ _ c, a => plWs_map (fun x => pl_enc c x) a
  | .pair c d, a => by
    show (plW (c.enc a.1) && (plW (d.enc a.2) && true)) = true
    rw [pl_enc c a.1, pl_enc d a.2] <;> rfl
  | .triple c d e, a => by
    show (plW (c.enc a.1) && (plW (d.enc a.2.1) && (plW (e.enc a.2.2) && true))) = true
    rw [pl_enc c a.1, pl_enc d a.2.1, pl_enc e a.2.2] <;> rfl
  | .option c, none => rfl
  | .option c, some x => pl_enc c x
theorem pl_encAll : ∀ (cs : List Codec) (a : Codec.denoteAll cs), plWs (Codec.encAll cs a) = true
  | [], _ => rfl
  | c :: cs, a => by
    show (plW (c.enc a.1) && plWs (Codec.encAll cs a.2)) = true
    rw [pl_enc c a.1, pl_encAll cs a.2] <;> rfl
theorem weight_mem : ∀ {xs : List WData} {d : WData}, d ∈ xs → d.weight ≤ WData.weightAll xs
  | [], d, h => absurd h (by simp)
  | x :: r, d, h => by
    show d.weight ≤ x.weight + 1 + WData.weightAll r
    rcases List.mem_cons.mp h with e | m
    · rw [e]
      omega
    · have z := weight_mem m
      omega
def toV : Value → V
  | .none => .non
  | .bool b => .bl b
  | .int i _ => .int i
  | .str x _ => .str x
  | .bytes b _ => .byt b
  | .ref a => .ref a
  | _ => .non
/-- a value of the arguments, its objects among A -/
def OkU (A : List Addr) : Value → Prop
  | .none => True
  | .bool _ => True
  | .int _ _ => True
  | .str _ _ => True
  | .bytes _ _ => True
  | .ref a => a ∈ A
  | _ => False
theorem OkU.mono {A B : List Addr} (h : ∀ a ∈ A, a ∈ B) : ∀ {u : Value}, OkU A u → OkU B u := fun {u} x => by
  cases u with
  | ref a => exact h a x
  | none => trivial
  | bool b => trivial
  | int i t => trivial
  | str s t => trivial
  | bytes b t => trivial
  | _ => exact False.elim x
theorem relV_toV {A : List Addr} {u : Value} (x : OkU A u) : RelV (toV u) u := by
  cases u with
  | ref a => rfl
  | none => rfl
  | bool b => rfl
  | int i t => exact ⟨t, rfl⟩
  | str s t => exact ⟨t, rfl⟩
  | bytes b t => exact ⟨t, rfl⟩
  | _ => exact False.elim x
theorem vals_toV {A : List Addr} : ∀ {vs : List Value}, (∀ u ∈ vs, OkU A u) → Vals (vs.map toV) vs
  | [], _ => .nil
  | u :: r, h => .cons (relV_toV (h u (List.mem_cons_self ..))) (vals_toV fun x hx => h x (List.mem_cons_of_mem _ hx))
/-- an object of the arguments -/
def ArgOb (h : Heap) (A : List Addr) (a : Addr) : Prop := ∃ vs : List Value, vs.length ≤ sizeLine ∧ (∀ u ∈ vs, OkU A u) ∧
  (h.get? a = some { cls := .type "list", data := .seq vs.toArray } ∨ h.get? a = some { cls := .type "tuple", data := .seq vs.toArray })
theorem ArgOb.mono {h : Heap} {A B : List Addr} {a : Addr} (k : ∀ a ∈ A, a ∈ B) (x : ArgOb h A a) : ArgOb h B a := by
  obtain ⟨vs, h1, h2, h3⟩ := x
  exact ⟨vs, h1, fun u hu => (h2 u hu).mono k, h3⟩
theorem wellAll_len {P : Params} {h : Heap} : ∀ {vs : List Value} {ds : List WData}, WellAll P h vs ds → vs.length = ds.length
  | _, _, .nil => rfl
  | _, _, .cons _ b => by
    show _ + 1 = _ + 1
    rw [wellAll_len b]
theorem well_list {P : Params} {h : Heap} {v : Value} {ds : List WData} (x : Well P h v (.list ds)) : ∃ (a : Addr) (vs : List Value), v = .ref a ∧ h.get? a = some { cls := .type "list", data := .seq vs.toArray } ∧ WellAll P h vs ds := by
  cases x with
  | list ho hall => exact ⟨_, _, rfl, ho, hall⟩
theorem well_tuple {P : Params} {h : Heap} {v : Value} {ds : List WData} (x : Well P h v (.tuple ds)) : ∃ (a : Addr) (vs : List Value), v = .ref a ∧ h.get? a = some { cls := .type "tuple", data := .seq vs.toArray } ∧ WellAll P h vs ds := by
  cases x with
  | tuple ho hall => exact ⟨_, _, rfl, ho, hall⟩
theorem well_cons {P : Params} {h : Heap} {us : List Value} {d : WData} {ds : List WData} (x : WellAll P h us (d :: ds)) : ∃ (v : Value) (vs : List Value), us = v :: vs ∧ Well P h v d ∧ WellAll P h vs ds := by
  cases x with
  | cons a b => exact ⟨_, _, rfl, a, b⟩
theorem line_of {n : Nat} (h : n ≤ 1048576) : n ≤ sizeLine := Nat.le_trans h (by decide)
section
variable {P : Params} {h : Heap}
mutual
theorem area_one : ∀ (d : WData) (v : Value), Well P h v d → plW d = true → d.weight ≤ 1048576 → ∃ A : List Addr, OkU A v ∧ ∀ a ∈ A, ArgOb h A a
  | .none, _, x, _, _ => by
    cases x
    exact ⟨[], trivial, fun a m => absurd m (by simp)⟩
  | .bool b, _, x, _, _ => by
    cases x
    exact ⟨[], trivial, fun a m => absurd m (by simp)⟩
  | .int i, _, x, _, _ => by
    cases x
    exact ⟨[], trivial, fun a m => absurd m (by simp)⟩
  | .str s, _, x, _, _ => by
    cases x
    exact ⟨[], trivial, fun a m => absurd m (by simp)⟩
  | .bytes b, _, x, _, _ => by
    cases x
    exact ⟨[], trivial, fun a m => absurd m (by simp)⟩
  | .list ds, _, x, p, z => by
    obtain ⟨a, vs, rfl, ho, hall⟩ := well_list x
    have z2 : WData.weightAll ds ≤ 1048576 := z
    obtain ⟨A, h1, h2⟩ := area_all ds _ hall p fun d hd => Nat.le_trans (weight_mem hd) z2
    have k : ∀ b ∈ A, b ∈ a :: A := fun b hb => List.mem_cons_of_mem _ hb
    refine ⟨a :: A, List.mem_cons_self .., fun b hb => ?_⟩
    rcases List.mem_cons.mp hb with e | m
    · rw [e]
      exact ⟨vs, line_of (by rw [wellAll_len hall]; exact Nat.le_trans (PySem.W.length_le_weightAllW ds) z2), fun u hu => (h1 u hu).mono k, .inl ho⟩
    · exact (h2 b m).mono k
  | .tuple ds, _, x, p, z => by
    obtain ⟨a, vs, rfl, ho, hall⟩ := well_tuple x
    have z2 : WData.weightAll ds ≤ 1048576 := z
    obtain ⟨A, h1, h2⟩ := area_all ds _ hall p fun d hd => Nat.le_trans (weight_mem hd) z2
    have k : ∀ b ∈ A, b ∈ a :: A := fun b hb => List.mem_cons_of_mem _ hb
    refine ⟨a :: A, List.mem_cons_self .., fun b hb => ?_⟩
    rcases List.mem_cons.mp hb with e | m
    · rw [e]
      exact ⟨vs, line_of (by rw [wellAll_len hall]; exact Nat.le_trans (PySem.W.length_le_weightAllW ds) z2), fun u hu => (h1 u hu).mono k, .inr ho⟩
    · exact (h2 b m).mono k
  | .float _, _, _, p, _ => Bool.noConfusion (show false = true from p)
  | .dict _, _, _, p, _ => Bool.noConfusion (show false = true from p)
  | .bytearray _, _, _, p, _ => Bool.noConfusion (show false = true from p)
  | .set _, _, _, p, _ => Bool.noConfusion (show false = true from p)
  | .frozenset _, _, _, p, _ => Bool.noConfusion (show false = true from p)
  | .obj _ _, _, _, p, _ => Bool.noConfusion (show false = true from p)
theorem area_all : ∀ (ds : List WData) (vs : List Value), WellAll P h vs ds → plWs ds = true → (∀ d ∈ ds, d.weight ≤ 1048576) → ∃ A : List Addr, (∀ u ∈ vs, OkU A u) ∧ ∀ a ∈ A, ArgOb h A a
  | [], _, x, _, _ => by
    cases x
    exact ⟨[], fun u m => absurd m (by simp), fun a m => absurd m (by simp)⟩
  | d :: ds, _, x, p, z => by
    obtain ⟨v, vs, rfl, x1, x2⟩ := well_cons x
    have q : plW d = true ∧ plWs ds = true := Bool.and_eq_true_iff.mp p
    obtain ⟨A, a1, a2⟩ := area_one d v x1 q.1 (z d (List.mem_cons_self ..))
    obtain ⟨B, b1, b2⟩ := area_all ds vs x2 q.2 fun e he => z e (List.mem_cons_of_mem _ he)
    have kA : ∀ b ∈ A, b ∈ A ++ B := fun b hb => List.mem_append.mpr (.inl hb)
    have kB : ∀ b ∈ B, b ∈ A ++ B := fun b hb => List.mem_append.mpr (.inr hb)
    refine ⟨A ++ B, fun u hu => ?_, fun b hb => ?_⟩
    · rcases List.mem_cons.mp hu with e | m
      · rw [e]
        exact a1.mono kA
      · exact (b1 u m).mono kB
    · rcases List.mem_append.mp hb with m | m
      · exact (a2 b m).mono kA
      · exact (b2 b m).mono kB
end
end
/-- what is tracked of an argument's object -/
def hoOf (o : Obj) : Option HO := match o.data with
  | .seq vs _ => if (o.cls == Value.type "list") = true then some (.frz o (.lst (vs.toList.map toV))) else some (.frz o (.tup (vs.toList.map toV)))
  | _ => none
def argH (K : PySem.W.Frag) (h : Heap) (A : List Addr) : Hp := fun b => if b ∈ A then (if (K.lookup b).isNone = true then (h.get? b).bind hoOf else none) else none
/-- nothing is tracked but what is known to the object -/
def OnlyF (H : Hp) : Prop := ∀ b, H b = none ∨ ∃ o u, H b = some (.frz o u)
theorem hoOf_lst (vs : List Value) : hoOf { cls := .type "list", data := .seq vs.toArray } = some (.frz { cls := .type "list", data := .seq vs.toArray } (.lst (vs.map toV))) := by
  show (if (Value.type "list" == Value.type "list") = true then some (HO.frz { cls := .type "list", data := .seq vs.toArray } (.lst (vs.toArray.toList.map toV))) else some (HO.frz { cls := .type "list", data := .seq vs.toArray } (.tup (vs.toArray.toList.map toV)))) = _
  rw [if_pos (beq_self_eq_true _)]
theorem hoOf_tup (vs : List Value) : hoOf { cls := .type "tuple", data := .seq vs.toArray } = some (.frz { cls := .type "tuple", data := .seq vs.toArray } (.tup (vs.map toV))) := by
  show (if (Value.type "tuple" == Value.type "list") = true then some (HO.frz { cls := .type "tuple", data := .seq vs.toArray } (.lst (vs.toArray.toList.map toV))) else some (HO.frz { cls := .type "tuple", data := .seq vs.toArray } (.tup (vs.toArray.toList.map toV)))) = _
  rw [if_neg (by decide)]
section
variable {P : Program} {w : World} {K : PySem.W.Frag} {h : Heap} {A : List Addr}
theorem argH_at {b : Addr} {o : Obj} (hb : b ∈ A) (hk : K.lookup b = none) (e : h.get? b = some o) : argH K h A b = hoOf o := by
  unfold argH
  rw [if_pos hb, hk, if_pos (show (none : Option Obj).isNone = true from rfl), e] <;> rfl
theorem of_argH {b : Addr} {u : HO} (q : argH K h A b = some u) : b ∈ A ∧ K.lookup b = none := by
  unfold argH at q
  by_cases hb : b ∈ A
  · rw [if_pos hb] at q
    cases hk : K.lookup b with
    | none => exact ⟨hb, rfl⟩
    | some o =>
      rw [hk, if_neg (by simp)] at q
      cases q
  · rw [if_neg hb] at q
    cases q
/-- what stands tracked -/
theorem argH_is (ar : ∀ a ∈ A, ArgOb h A a) {b : Addr} {u : HO} (q : argH K h A b = some u) : K.lookup b = none ∧ ∃ vs : List Value, vs.length ≤ sizeLine ∧ (∀ u ∈ vs, OkU A u) ∧
    ((h.get? b = some { cls := .type "list", data := .seq vs.toArray } ∧ u = .frz { cls := .type "list", data := .seq vs.toArray } (.lst (vs.map toV))) ∨
     (h.get? b = some { cls := .type "tuple", data := .seq vs.toArray } ∧ u = .frz { cls := .type "tuple", data := .seq vs.toArray } (.tup (vs.map toV)))) := by
  obtain ⟨hb, hk⟩ := of_argH q
  obtain ⟨vs, h1, h2, h3⟩ := ar b hb
  refine ⟨hk, vs, h1, h2, ?_⟩
  rcases h3 with e | e
  · rw [argH_at hb hk e, hoOf_lst] at q
    exact .inl ⟨e, (Option.some.inj q).symm⟩
  · rw [argH_at hb hk e, hoOf_tup] at q
    exact .inr ⟨e, (Option.some.inj q).symm⟩
theorem argH_only (ar : ∀ a ∈ A, ArgOb h A a) : OnlyF (argH K h A) := fun b => by
  cases q : argH K h A b with
  | none => exact .inl rfl
  | some u =>
    obtain ⟨_, vs, _, _, ⟨_, e⟩ | ⟨_, e⟩⟩ := argH_is ar q
    · exact .inr ⟨_, _, by rw [e]⟩
    · exact .inr ⟨_, _, by rw [e]⟩
theorem argH_ok (ar : ∀ a ∈ A, ArgOb h A a) : HOk P w (argH K h A) h := fun b u q => by
  obtain ⟨_, vs, h1, h2, ⟨e, rfl⟩ | ⟨e, rfl⟩⟩ := argH_is ar q
  · exact ⟨e, by rw [List.length_map]; exact h1, vs, _, vals_toV h2, e⟩
  · exact ⟨e, by rw [List.length_map]; exact h1, vs, vals_toV h2, _, e, rfl, _, rfl⟩
theorem seq_inj {c c' : Value} {vs us : List Value} (e : (some { cls := c, data := .seq vs.toArray } : Option Obj) = some { cls := c', data := .seq us.toArray }) : c = c' ∧ vs = us := by
  have e1 := Option.some.inj e
  have e2 : c = c' := congrArg Obj.cls e1
  have e3 : Data.seq vs.toArray = Data.seq us.toArray := congrArg Obj.data e1
  injection e3 with e4
  refine ⟨e2, ?_⟩
  have e5 := congrArg Array.toList e4
  simpa using e5
/-- a list argument -/
theorem argL (KX : K.In h) (ar : ∀ a ∈ A, ArgOb h A a) {a : Addr} {vs : List Value} (ha : a ∈ A) (e : h.get? a = some { cls := .type "list", data := .seq vs.toArray }) : (∀ u ∈ vs, OkU A u) ∧ SqL K (argH K h A) a (vs.map toV) := by
  obtain ⟨us, h1, h2, h3⟩ := ar a ha
  have hu : us = vs := by
    rcases h3 with q | q
    · rw [e] at q
      exact (seq_inj q).2.symm
    · rw [e] at q
      exact absurd (Value.type.inj (seq_inj q).1) (by decide)
  subst hu
  refine ⟨h2, ?_⟩
  cases hk : K.lookup a with
  | none => exact .inl (.inr ⟨_, by rw [argH_at ha hk e, hoOf_lst]⟩)
  | some o =>
    have e2 := KX a o hk
    rw [e] at e2
    obtain rfl := Option.some.inj e2
    exact .inr ⟨_, us.toArray, _, hk, rfl, rfl, rfl, by rw [List.size_toArray]; exact h1, by simpa using vals_toV h2⟩
theorem argT (KX : K.In h) (ar : ∀ a ∈ A, ArgOb h A a) {a : Addr} {vs : List Value} (ha : a ∈ A) (e : h.get? a = some { cls := .type "tuple", data := .seq vs.toArray }) : (∀ u ∈ vs, OkU A u) ∧ SqT K (argH K h A) a (vs.map toV) := by
  obtain ⟨us, h1, h2, h3⟩ := ar a ha
  have hu : us = vs := by
    rcases h3 with q | q
    · rw [e] at q
      exact absurd (Value.type.inj (seq_inj q).1) (by decide)
    · rw [e] at q
      exact (seq_inj q).2.symm
  subst hu
  refine ⟨h2, ?_⟩
  cases hk : K.lookup a with
  | none => exact .inl (.inr ⟨_, by rw [argH_at ha hk e, hoOf_tup]⟩)
  | some o =>
    have e2 := KX a o hk
    rw [e] at e2
    obtain rfl := Option.some.inj e2
    exact .inr ⟨_, us.toArray, _, hk, rfl, rfl, by rw [List.size_toArray]; exact h1, by simpa using vals_toV h2⟩
mutual
theorem dw_one {Pm : Params} (KX : K.In h) (ar : ∀ a ∈ A, ArgOb h A a) : ∀ (d : WData) (v : Value), Well Pm h v d → plW d = true → OkU A v → Dw K (argH K h A) (toV v) d
  | .none, _, x, _, _ => by
    cases x
    exact .non
  | .bool b, _, x, _, _ => by
    cases x
    exact .bl b
  | .int i, _, x, _, _ => by
    cases x
    exact .int i
  | .str s, _, x, _, _ => by
    cases x
    exact .str s
  | .bytes b, _, x, _, _ => by
    cases x
    have z := Dw.byt (K := K) (H := argH K h A) b.toArray
    exact z
  | .list ds, _, x, p, hu => by
    obtain ⟨a, vs, rfl, ho, hall⟩ := well_list x
    obtain ⟨h2, hs⟩ := argL KX ar hu ho
    exact .lst hs (dw_all KX ar ds _ hall p h2)
  | .tuple ds, _, x, p, hu => by
    obtain ⟨a, vs, rfl, ho, hall⟩ := well_tuple x
    obtain ⟨h2, hs⟩ := argT KX ar hu ho
    exact .tup hs (dw_all KX ar ds _ hall p h2)
  | .float _, _, _, p, _ => Bool.noConfusion (show false = true from p)
  | .dict _, _, _, p, _ => Bool.noConfusion (show false = true from p)
  | .bytearray _, _, _, p, _ => Bool.noConfusion (show false = true from p)
  | .set _, _, _, p, _ => Bool.noConfusion (show false = true from p)
  | .frozenset _, _, _, p, _ => Bool.noConfusion (show false = true from p)
  | .obj _ _, _, _, p, _ => Bool.noConfusion (show false = true from p)
theorem dw_all {Pm : Params} (KX : K.In h) (ar : ∀ a ∈ A, ArgOb h A a) : ∀ (ds : List WData) (vs : List Value), WellAll Pm h vs ds → plWs ds = true → (∀ u ∈ vs, OkU A u) → DwAll K (argH K h A) (vs.map toV) ds
  | [], _, x, _, _ => by
    cases x
    exact .nil
  | d :: ds, _, x, p, hu => by
    obtain ⟨v, vs, rfl, x1, x2⟩ := well_cons x
    have q : plW d = true ∧ plWs ds = true := Bool.and_eq_true_iff.mp p
    exact .cons (dw_one KX ar d v x1 q.1 (hu _ (List.mem_cons_self ..))) (dw_all KX ar ds vs x2 q.2 fun u m => hu u (List.mem_cons_of_mem _ m))
end
end
/-! ### the call -/
theorem spec_call {P : Program} {w : World} {K : PySem.W.Frag} {mg mb : Str → Option Value} {CX : CXT} {k : Nat} {fa : Addr} {fd : FuncData} {ps : List Str} {sp : Sp} {s₁ : Shared} {vals : List Value} {ds : List WData} {R : PySem.W.WRecords} {cl : Str → Option Addr} {d0 : WData}
    (KX : K.In s₁.heap) (hns : s₁.heap.Ns mainGlobals mg) (hb : s₁.heap.Ns builtinsNs mb) (hbb : ∀ x : Str, x ≠ "__name__" → mb x = bootBuiltins x) (hlim : s₁.heap.NoLimit) (hg : s₁.gens = #[])
    (hwl : WellAll w.params s₁.heap vals ds) (hpl : plWs ds = true) (hwt : ∀ d ∈ ds, d.weight ≤ 1048576) (hr : Room k callerA)
    (F : ∀ base : Heap, K.In base → base.Ns mainGlobals mg → FnOk P w K mg base CX k fa fd ps sp) (hbind : ∀ (s : Shared) (us : List Value), us.length = ps.length → BindsTo s fd ⟨us, []⟩ (ps.zip us)) (hlen : ds.length = ps.length)
    (hsp : ∀ (H : Hp) (xs : List V), OnlyF H → DwAll K H xs ds → sp xs H (fun v H' => Dw K H' v d0) fun _ _ _ => False)
    (hCX : ∀ H e s', CX [] H s₁ (fun _ _ _ => False) e s' → False) :
    codeAny (model P w) callerA (.call (.ref fa) ⟨vals, []⟩) (fun r s' => ∃ u as, r = .ok (.ret u) ∧ ReadsW R cl s'.heap u d0 as ∧ OldK s₁.heap s'.heap ∧ s'.os = s₁.os ∧ AllBare s'.gens) s₁ := by
  obtain ⟨A, ho, ar⟩ := area_all ds vals hwl hpl hwt
  have hO : OnlyF (argH K s₁.heap A) := argH_only ar
  have hok : HOk P w (argH K s₁.heap A) s₁.heap := argH_ok ar
  have hS := dw_all KX ar ds vals hwl hpl ho
  have hV := vals_toV ho
  have hK : ∀ b u, argH K s₁.heap A b = some u → K.lookup b = none := fun b u q => (argH_is ar q).1
  have noA : ∀ {b : Addr} {o : Obj} {es : Array DictEntry} {ep : Nat}, s₁.heap.get? b = some o → o.data = .dict es ep → argH K s₁.heap A b = none := fun {b o es ep} e d => by
    cases q : argH K s₁.heap A b with
    | none => rfl
    | some u =>
      obtain ⟨_, vs, _, _, ⟨e2, _⟩ | ⟨e2, _⟩⟩ := argH_is ar q
      · rw [e2] at e
        cases e
        have d' : Data.seq vs.toArray _ = Data.dict es ep := d
        cases d'
      · rw [e2] at e
        cases e
        have d' : Data.seq vs.toArray _ = Data.dict es ep := d
        cases d'
  generalize argH K s₁.heap A = H at hO hok hS hK noA
  have base_of : ∀ {b : Addr} {o : Obj}, s₁.heap.get? b = some o → H b = none → (hidT s₁.heap H).get? b = some o := fun e n => hidT_get e n
  have nsK : ∀ {b : Addr} {m : Str → Option Value}, s₁.heap.Ns b m → (hidT s₁.heap H).Ns b m := fun {b m} ⟨o, es, ep, e, d, r⟩ => ⟨o, es, ep, base_of e (noA e d), d, r⟩
  have nK : ∀ b o, K.lookup b = some o → H b = none := fun b o e => by
    cases q : H b with
    | none => rfl
    | some u =>
      rw [hK b u q] at e
      cases e
  have hKb : K.In (hidT s₁.heap H) := fun b o e => base_of (KX b o e) (nK b o e)
  have hM : Mod K mg (hidT s₁.heap H) := ⟨hKb, nsK hns, ⟨mb, nsK hb, hbb⟩, let ⟨mc, h1, h2⟩ := hlim; ⟨mc, nsK h1, h2⟩⟩
  have e0 : Env0 P w K mg (hidT s₁.heap H) callerA [] s₁ H := ⟨rfl, hM, fun b o e => of_hidT e, Nat.le_of_eq (hidT_size _ _), trivial, fun b hb => absurd (show b ∈ ([] : List Addr) from hb) (by simp), hok, .of_eq hg⟩
  have hl : vals.length = ps.length := by rw [wellAll_len hwl]; exact hlen
  refine codeAny_mono ((F _ hKb (nsK hns)).run callerA [] s₁ H ⟨vals, []⟩ vals (vals.map toV) _ _ hr e0 (hbind s₁ vals hl) hV (hsp H _ hO hS)) fun r s' x => ?_
  cases r with
  | error e => exact (hCX H e s' x).elim
  | ok fl =>
    cases fl with
    | next => exact False.elim x
    | brk => exact False.elim x
    | cont => exact False.elim x
    | ret u =>
      obtain ⟨v, H', os, bare, un, hok', r', q⟩ := x
      have kept : ∀ b o, s₁.heap.get? b = some o → s'.heap.get? b = some o := fun b o e => by
        cases q2 : H b with
        | none => exact un.keep b o e q2 (by intro z; exact absurd (show b ∈ ([] : List Addr) from z) (by simp)) (by simp)
        | some u2 =>
          rcases hO b with z | ⟨ob, u3, z⟩
          · rw [q2] at z
            cases z
          · have z2 := un.frzs b ob _ z
            obtain ⟨e1, _⟩ := hok b _ z
            obtain ⟨e2, _⟩ := hok' b _ z2
            rw [e] at e1
            cases e1
            exact e2
      have KX' : K.In s'.heap := fun b o e => kept b o (KX b o e)
      obtain ⟨as, hrd⟩ := Dw.reads (R := R) (cl := cl) hok' KX' d0 v u q r'
      exact ⟨u, as, rfl, hrd, OldK.of_keep kept, os, bare⟩
/-! ### the row -/
theorem layable_weight {ds : List WData} (h : WData.layableAll ds = true) : ∀ d ∈ ds, d.weight ≤ 1048576 := fun d hd =>
  (PySem.W.layableW_iff.mp (List.all_eq_true.mp h d hd)).2.2
theorem encAll_len : ∀ (cs : List Codec) (a : Codec.denoteAll cs), (Codec.encAll cs a).length = cs.length
  | [], _ => rfl
  | c :: cs, a => by
    show (Codec.encAll cs a.2).length + 1 = cs.length + 1
    rw [encAll_len cs a.2]
/-- the goal that k_headS leaves (case hc), from the promise of the row's def: whatever the arguments that the codecs let and the row asks for, the def gives what stands for enc (f ..) -/
theorem walk_spec {r : OpenSpec} {k : Nat} {q : Program} {loose : List Str} {XP : (Str → Option Value) → Heap → Prop} {YP : World → Heap → Prop} {d : DefRec} {K : Params → PySem.W.Frag} {CX : World → CXT} {ps : List Str} {sp : World → Sp}
    (hwell : r.wellSaid = true) (hdf : d.params.defaults = []) (hlen : r.args.length = ps.length) (hr : Room k callerA)
    (hY : ∀ (w : World) (h : Heap), YP w h → (K w.params).In h)
    (F : ∀ (w : World) (mg : Str → Option Value) (fa : Addr) (h : Heap), YP w h → (K w.params).In h → h.Ns mainGlobals mg → mg d.name = some (.ref fa) →
      ∃ fd : FuncData, (∀ (s : Shared) (us : List Value), us.length = ps.length → BindsTo s fd ⟨us, []⟩ (ps.zip us)) ∧
        ∀ base : Heap, (K w.params).In base → base.Ns mainGlobals mg → FnOk r.prog w (K w.params) mg base (CX w) k fa fd ps (sp w))
    (hsp : ∀ (w : World) (H : Hp) (xs : List V) (a : Codec.denoteAll r.args), OnlyF H → Codec.withinAll r.args a = true → Codec.app r.args r.asked a = true → DwAll (K w.params) H xs (Codec.encAll r.args a) →
      sp w xs H (fun v H' => Dw (K w.params) H' v (r.ret.enc (Codec.app r.args r.f a))) fun _ _ _ => False)
    (hCX : ∀ (w : World) (H : Hp) (s : Shared) (e : Value) (s' : Shared), CX w [] H s (fun _ _ _ => False) e s' → False) :
    PySem.W.WalkOS q loose XP YP r d [] (fun f vs => PySem.call f vs) := by
  intro w s_0 s₁ mg mb G Y fa o pm cd doc dV kV ho hd hcd hD hmg hg args vals as hpre hlay hrd hwl hlo
  obtain ⟨a, e1, e2⟩ := PySem.W.os_pre_some hpre
  obtain ⟨e3, hwi⟩ := Codec.encAll_of_decAll r.args args a e1
  subst e3
  have KX := hY w _ Y
  obtain ⟨fd, hb, hF⟩ := F w mg fa _ Y KX G.T.g hmg
  refine PySem.W.enter_call (codeAny_mono (spec_call (R := []) (cl := classAt s_0.heap) (d0 := r.ret.enc (Codec.app r.args r.f a)) KX G.T.g G.T.b G.T.builtins G.T.nolimit hg hwl (pl_encAll _ _) (layable_weight hlay) hr hF hb (by rw [encAll_len]; exact hlen)
    (fun H xs hO hS => hsp w H xs a hO hwi e2 hS) fun H e s' => hCX w H s₁ e s') fun r' s' hq => ?_)
  obtain ⟨u, as', rfl, h1, h2, h3, h4⟩ := hq
  exact ⟨.inl ⟨u, _, as', rfl, fun _ => rfl, h1, (OpenSpec.post_iff hwell hwi _ _).mpr rfl, fun z => Bool.noConfusion (show false = true from z)⟩, h2, h3, h4⟩
/-- the same where the promise hangs on the written part alone -/
theorem walk_specK {r : OpenSpec} {k : Nat} {q : Program} {loose : List Str} {XP : (Str → Option Value) → Heap → Prop} {YP : World → Heap → Prop} {d : DefRec} {K : Params → PySem.W.Frag} {CX : CXT} {ps : List Str} {sp : PySem.W.Frag → Sp}
    (hwell : r.wellSaid = true) (hdf : d.params.defaults = []) (hlen : r.args.length = ps.length) (hr : Room k callerA)
    (hY : ∀ (w : World) (h : Heap), YP w h → (K w.params).In h)
    (F : ∀ (w : World) (mg : Str → Option Value) (fa : Addr) (h : Heap), YP w h → (K w.params).In h → h.Ns mainGlobals mg → mg d.name = some (.ref fa) →
      ∃ fd : FuncData, (∀ (s : Shared) (us : List Value), us.length = ps.length → BindsTo s fd ⟨us, []⟩ (ps.zip us)) ∧
        ∀ base : Heap, (K w.params).In base → base.Ns mainGlobals mg → FnOk r.prog w (K w.params) mg base CX k fa fd ps (sp (K w.params)))
    (hsp : ∀ (K : PySem.W.Frag) (H : Hp) (xs : List V) (a : Codec.denoteAll r.args), OnlyF H → Codec.withinAll r.args a = true → Codec.app r.args r.asked a = true → DwAll K H xs (Codec.encAll r.args a) →
      sp K xs H (fun v H' => Dw K H' v (r.ret.enc (Codec.app r.args r.f a))) fun _ _ _ => False)
    (hCX : ∀ (H : Hp) (s : Shared) (e : Value) (s' : Shared), CX [] H s (fun _ _ _ => False) e s' → False) :
    PySem.W.WalkOS q loose XP YP r d [] (fun f vs => PySem.call f vs) :=
  walk_spec (K := K) (CX := fun _ => CX) (sp := fun w => sp (K w.params)) hwell hdf hlen hr hY F (fun w H xs a h1 h2 h3 h4 => hsp (K w.params) H xs a h1 h2 h3 h4) fun _ H s e s' => hCX H s e s'
end L2
end
end
section
set_option Elab.async false
set_option linter.all false
set_option maxRecDepth 100000
namespace L2
open PySem PySem.Spec PyProof.Rows Xc
/-! ### errors of one's own with attributes: the object, its dict, the object once it has been caught -/
def XO (x C t : Addr) (dx : Option Addr) : HO := .ext fun h => h.get? x = some { cls := .ref C, dict := dx, data := .fields #[.ref t, .none, .none, .none, .bool false, .none] }
def XD (d : Addr) (fs : List (Str × V)) : HO := .ext fun h => ∃ mA, h.Ns1 d mA ∧ (∀ f, RelO (fs.lookup f) (mA f)) ∧ PySem.Within mA (fs.map (·.1))
def XE (x C dx : Addr) : HO := .ext fun h => ∃ o vs, h.get? x = some o ∧ o.cls = .ref C ∧ o.dict = some dx ∧ o.data = .fields vs
section
variable {P : Program} {w : World} {H H' : Hp} {h h' : Heap} {a x C t d dx : Addr} {fs : List (Str × V)}
theorem xo_ok {dd : Option Addr} (e : h.get? x = some { cls := .ref C, dict := dd, data := .fields #[.ref t, .none, .none, .none, .bool false, .none] }) : ObjOk P w H h x (XO x C t dd) := ⟨e, ⟨_, e⟩, fun _ _ p k => k _ p⟩
theorem xd_ok {mA : Str → Option Value} (n : h.Ns1 d mA) (r : ∀ f, RelO (fs.lookup f) (mA f)) (wi : PySem.Within mA (fs.map (·.1))) : ObjOk P w H h d (XD d fs) := by
  refine ⟨⟨mA, n, r, wi⟩, ?_, fun h1 h2 p k => ?_⟩
  · obtain ⟨o, _, _, e, _⟩ := n
    exact ⟨o, e⟩
  · obtain ⟨mB, n', r', wi'⟩ := p
    exact ⟨mB, n'.at k, r', wi'⟩
theorem xe_ok {o : Obj} {vs : Array Value} (e : h.get? x = some o) (hc : o.cls = .ref C) (hd : o.dict = some dx) (hf : o.data = .fields vs) : ObjOk P w H h x (XE x C dx) := by
  refine ⟨⟨o, vs, e, hc, hd, hf⟩, ⟨o, e⟩, fun h1 h2 p k => ?_⟩
  obtain ⟨o', vs', e', r⟩ := p
  exact ⟨o', vs', k _ e', r⟩
theorem ObjOk.there {o : HO} (z : ObjOk P w H h a o) : ∃ u, h.get? a = some u := by
  cases o with
  | lst xs => obtain ⟨_, _, _, _, e⟩ := z; exact ⟨_, e⟩
  | tup xs => obtain ⟨_, _, _, _, e, _⟩ := z; exact ⟨_, e⟩
  | dK kvs => obtain ⟨_, _, _, _, _, _, _, e, _⟩ := z; exact ⟨_, e⟩
  | dT kvs => obtain ⟨_, _, _, _, _, _, _, e, _⟩ := z; exact ⟨_, e⟩
  | set S n => obtain ⟨_, _, _, _, e, _⟩ := z; exact ⟨_, e⟩
  | ins C dx fs => obtain ⟨_, _, _, e, _⟩ := z; exact ⟨_, e⟩
  | own y => obtain ⟨_, e⟩ := z; exact ⟨_, e⟩
  | xd fs => obtain ⟨_, ⟨_, _, _, e, _⟩, _⟩ := z; exact ⟨_, e⟩
  | rng lo hi => obtain ⟨_, _, _, e⟩ := z; exact ⟨_, e⟩
  | frz ob u => obtain ⟨e, _⟩ := z; exact ⟨_, e⟩
  | tbl ps => exact ⟨_, (show h.get? a = some _ from z)⟩
  | met f y => exact ⟨_, (show h.get? a = some _ from z)⟩
  | ext p => obtain ⟨_, e, _⟩ := z; exact e
theorem HOk.noneOf (z : HOk P w H h) (e : h.get? a = none) : H a = none := by
  cases q : H a with
  | none => rfl
  | some o =>
    obtain ⟨u, hu⟩ := (z a o q).there
    rw [e] at hu; cases hu
theorem HOk.laidN {o : HO} (z : HOk P w H h) (k : ∀ b u, h.get? b = some u → h'.get? b = some u) (hn : h.get? a = none) (new : ObjOk P w (upd H a o) h' a o) : HOk P w (upd H a o) h' := fun b u e => by
  have hna := z.noneOf hn
  by_cases hb : b = a
  · subst hb; rw [upd_same] at e; cases e; exact new
  · rw [upd_ne hb] at e
    exact (z b u e).stay (fun c v _ q => k c v q) (fun c q => by rw [upd_ne (ne_of_none q hna)]; exact q) fun c xs q => by rw [upd_ne (ne_of_none q hna)]; exact q
theorem Un.laidN {f ex : List Addr} {o : HO} (k : ∀ b u, h.get? b = some u → h'.get? b = some u) (hp : h.get? a = none) (hn : H a = none) : Un f ex H (upd H a o) h h' where
  keep := fun b u q _ _ _ => k b u q
  slot := fun b u q _ _ _ => ⟨u.slots, k b u q⟩
  free := fun b u q n _ => by
    have : b ≠ a := fun z => by rw [z, hp] at q; cases q
    rw [upd_ne this]; exact n
  there := fun b u q _ => ⟨u, k b u q⟩
  tups := fun b xs q => by rw [upd_ne (ne_of_none q hn)]; exact q
  frzs := fun b u xs q => by rw [upd_ne (ne_of_none q hn)]; exact q
  tbls := fun b ps q => ⟨#[], by rw [upd_ne (ne_of_none q hn), q]; simp⟩
/-- no more tracked -/
def dropH (H : Hp) (a : Addr) : Hp := fun b => if b = a then none else H b
theorem drop_same : dropH H a a = none := if_pos rfl
theorem drop_ne {b : Addr} (z : b ≠ a) : dropH H a b = H b := if_neg z
theorem drop_some {b : Addr} {o : HO} (e : dropH H a b = some o) : b ≠ a ∧ H b = some o := by
  by_cases z : b = a
  · rw [z, drop_same] at e; cases e
  · exact ⟨z, by rw [drop_ne z] at e; exact e⟩
end
section
variable {X : Cx} {pins : List (Addr × Obj)} {σ : St} {H : Hp} {s : Shared} {h' : Heap}
theorem Inv.laidN {a : Addr} {o : HO} {t' : Nat} (I : Inv X pins σ H s) (k : ∀ b u, s.heap.get? b = some u → h'.get? b = some u) (hp : s.heap.get? a = none) (new : ObjOk X.prog X.w (upd H a o) h' a o) :
    Inv X pins σ (upd H a o) { s with heap := h', toks := t' } := I.un (Un.laidN k hp (I.hok.noneOf hp)) (I.hok.laidN k hp new)
/-- within an except suite -/
abbrev Cx.within (X : Cx) (e : Value) : Cx := { X with A := X.A.mark (some e), calm := false, xe := fun _ _ => False }
theorem Inv.within (I : Inv X pins σ H s) (e : Value) : Inv (X.within e) pins σ H s := by
  have ok := I.ok
  exact ⟨⟨ok.mod, ok.kind, ok.glob, ok.blt, ok.above, ok.inj, ok.has, ok.cab, fun z => (by cases z), ok.frames, ok.stk, ok.exf, ok.bs, ok.bsz, ok.noex, ok.exfs, ok.funs, ok.frf⟩, I.os, I.bare, I.base, I.loc, I.cell, I.free, I.freeC, I.pin, I.hok, I.len⟩
theorem Inv.without {e : Value} (I : Inv (X.within e) pins σ H s) (ok : X.Ok) : Inv X pins σ H s := ⟨ok, I.os, I.bare, I.base, I.loc, I.cell, I.free, I.freeC, I.pin, I.hok, I.len⟩
end
/-! ### an error on its way: how it lies behind a call -/
structure Flies (P : Program) (w : World) (C : Addr) (outer : List Env) (H : Hp) (s : Shared) (x dx : Addr) (H' : Hp) (B : Heap) (a0 : Value) (h : Heap) : Prop where
  new : s.heap.get? x = none
  noH : H' x = none
  dict : ∃ o, h.get? x = some o ∧ o.dict = some dx
  fly : Heap.FlyingW B outer x (.ref C) a0 h
  old : ∀ b o, s.heap.get? b = some o → H b = none → b ∉ frs outer → B.get? b = some o
  trk : ∀ b o, H' b = some o → ∃ u, B.get? b = some u
  hok : HOk P w H' h
  un : Un (frs outer) [] H H' s.heap h
def CXF (P : Program) (w : World) (C : Addr) : CXT := fun outer H s E e s' => ∃ (x dx : Addr) (H' : Hp) (B : Heap) (a0 : Value), e = .ref x ∧ s'.os = s.os ∧ AllBare s'.gens ∧ Flies P w C outer H s x dx H' B a0 s'.heap ∧ E (.ref C) (some dx) H'
theorem Flies.step {P : Program} {w : World} {C : Addr} {outer : List Env} {H : Hp} {s : Shared} {x dx : Addr} {H' : Hp} {B : Heap} {a0 : Value} {h h' : Heap} (F : Flies P w C outer H s x dx H' B a0 h)
    (funs : s.heap.FunFrames B outer ∨ ∀ b ∈ frs outer, ∃ o, s.heap.get? b = some o ∧ ∀ vs, o.data ≠ .fields vs) (f : Heap.FlyingW B outer x (.ref C) a0 h') (up : h.UpToSlots h') (dk : Dk h h') : Flies P w C outer H s x dx H' B a0 h' := by
  have inB : ∀ b u, B.get? b = some u → h.get? b = some u ∧ h'.get? b = some u := fun b u e => ⟨F.fly.1 b u e, f.1 b u e⟩
  refine ⟨F.new, F.noH, ?_, f, F.old, F.trk, fun a o e => ?_, ⟨fun b o e n hb hx => ?_, fun b o e n hb hx => ?_, F.un.free, fun b o e hx => ?_, F.un.tups, F.un.frzs, F.un.tbls⟩⟩
  · obtain ⟨o, e1, e2⟩ := F.dict
    obtain ⟨u, u1, u2, _⟩ := dk x o e1
    exact ⟨u, u1, u2.trans e2⟩
  · refine (F.hok a o e).stay (fun b u hb q => ?_) (fun _ q => q) fun _ _ q => q
    obtain ⟨v, hv⟩ : ∃ v, B.get? b = some v := by
      rcases hb with rfl | hb
      · exact F.trk b o e
      · exact F.trk b _ hb
    have := (inB b v hv).1
    rw [q] at this; cases this
    exact (inB b _ hv).2
  · exact f.1 b o (F.old b o e n hb)
  · obtain ⟨sl, e1⟩ := F.un.slot b o e n hb hx
    have hnf : ∀ vs, o.data ≠ .fields vs := by
      rcases funs with z | z
      · obtain ⟨_, o2, h1, h2⟩ := z.mem hb
        rw [e] at h1; cases h1; exact h2
      · obtain ⟨o2, h1, h2⟩ := z b hb
        rw [e] at h1; cases h1; exact h2
    obtain ⟨sl', e2⟩ := up b _ e1 hnf
    exact ⟨sl', e2⟩
  · obtain ⟨o', e1⟩ := F.un.there b o e hx
    obtain ⟨u, u1, _⟩ := dk b o' e1
    exact ⟨u, u1⟩
end L2
end
section
set_option Elab.async false
set_option linter.all false
set_option maxRecDepth 100000
namespace L2
open PySem PySem.Spec PyProof.Rows Xc
/-- an error leaves the def that made it -/
theorem xe_of {P : Program} {w : World} {K : PySem.W.Frag} {mg : Str → Option Value} {base : Heap} {N : List Str} {qual : Str} {scope : Scope} {f : Addr} {cd : Value} {A : Around} {outer : List Env} {s : Shared} {H : Hp} {E : XK} {C : Addr}
    {pins : List (Addr × Obj)} {σ : St} {H2 : Hp} {s2 : Shared} {x t dx : Addr}
    (I : Inv (cxOf (CXF P w C) P w K mg base N qual scope f cd A outer s H E) pins σ H2 s2) (hx : H2 x = some (XO x C t (some dx))) (hnew : s.heap.get? x = none) (q : E (.ref C) (some dx) (dropH H2 x)) :
    (cxOf (CXF P w C) P w K mg base N qual scope f cd A outer s H E).xe (.ref x) s2 := by
  obtain ⟨ex, _, _⟩ := I.hok x _ hx
  have ex : s2.heap.get? x = some { cls := .ref C, dict := some dx, data := .fields #[.ref t, .none, .none, .none, .bool false, .none] } := ex
  have fr2 := I.stkFree
  have FF0 := I.stack
  have hst : (cxOf (CXF P w C) P w K mg base N qual scope f cd A outer s H E).stack = envOfC qual scope s.heap.objs.size f cd :: outer := rfl
  rw [hst] at fr2 FF0
  have xfr : x ∉ frs (envOfC qual scope s.heap.objs.size f cd :: outer) := fun z => by rw [fr2 x z] at hx; cases hx
  have FF : s2.heap.FunFrames (PySem.W.hideAll s2.heap (x :: frs (envOfC qual scope s.heap.objs.size f cd :: outer))) (envOfC qual scope s.heap.objs.size f cd :: outer) :=
    PySem.W.funFrames_hide FF0 fun env he b hb => List.mem_cons_of_mem _ (List.mem_filterMap.mpr ⟨env, he, hb⟩)
  have inB : ∀ b u, s2.heap.get? b = some u → b ≠ x → b ∉ frs (envOfC qual scope s.heap.objs.size f cd :: outer) → (PySem.W.hideAll s2.heap (x :: frs (envOfC qual scope s.heap.objs.size f cd :: outer))).get? b = some u := fun b u e h1 h2 =>
    PySem.W.hideAll_get _ e fun z => (List.mem_cons.mp z).elim h1 h2
  have hnone : (PySem.W.hideAll s2.heap (x :: frs (envOfC qual scope s.heap.objs.size f cd :: outer))).get? x = none := PySem.W.hideAll_none _ List.mem_cons_self
  have tr : ∀ b o, H2 b = some o → b ∉ frs (envOfC qual scope s.heap.objs.size f cd :: outer) := fun b o e z => by rw [fr2 b z] at e; cases e
  have old : ∀ b o, s.heap.get? b = some o → H b = none → b ∉ frs outer → (PySem.W.hideAll s2.heap (x :: frs (envOfC qual scope s.heap.objs.size f cd :: outer))).get? b = some o := fun b o e n hb => by
    refine inB b o (I.base.keep b o e n hb (by intro z; exact absurd (show b ∈ ([] : List Addr) from z) (by simp))) (fun z => by rw [z, hnew] at e; cases e) fun z => ?_
    have z : b ∈ frs (envOfC qual scope s.heap.objs.size f cd :: outer) := z
    unfold frs at z
    rw [List.filterMap_cons] at z
    rcases List.mem_cons.mp z with z | z
    · exact absurd (Heap.lt_size e) (by rw [z]; exact Nat.lt_irrefl _)
    · exact hb z
  have fly : wpAny (model P w) (A.deeper (envOfC qual scope s.heap.objs.size f cd)) (leaving (envOfC qual scope s.heap.objs.size f cd) (.ref x))
      (fun _ s' => ∃ h', s' = { s2 with heap := h' } ∧ Heap.LeftW (PySem.W.hideAll s2.heap (x :: frs (envOfC qual scope s.heap.objs.size f cd :: outer))) (envOfC qual scope s.heap.objs.size f cd :: outer) x (.ref C) (.ref t) s2.heap h') (fun _ _ => False) s2 :=
    wpAny_leaving_firstW (a0 := .ref t) (L := s.heap.objs.size) I.ok.frames FF rfl ex (fun b o e => PySem.W.of_hideAll _ e) hnone rfl rfl rfl fun h' hL => ⟨h', rfl, hL⟩
  show wpAny (model P w) (A.deeper (envOfC qual scope s.heap.objs.size f cd)) (leaving (envOfC qual scope s.heap.objs.size f cd) (.ref x)) (fun _ s'' => CXF P w C outer H s E (.ref x) s'') (fun e' s'' => CXF P w C outer H s E e' s'') s2
  refine wpAny_mono ((kd_leaving _ _).any fly) (fun _ s' z => ?_) fun _ _ z => z.elim
  obtain ⟨⟨h', rfl, k1, ⟨_, _, k2⟩, k3, k4⟩, dk⟩ := z
  refine ⟨x, dx, dropH H2 x, _, .ref t, rfl, I.os, I.bare, ⟨hnew, drop_same, ?_, ⟨k1, hnone, k2, k3⟩, old, fun b o e => ?_, fun a o e => ?_, ⟨fun b o e n hb _ => k1 b o (old b o e n hb), fun b o e n hb hx => ?_, fun b o e n hx => ?_, fun b o e hx => ?_, fun b xs e => ?_, fun b o u e => ?_, fun b ps e => ?_⟩⟩, q⟩
  · obtain ⟨u, u1, u2, _⟩ := dk x _ ex
    exact ⟨u, u1, u2⟩
  · obtain ⟨nb, e⟩ := drop_some e
    obtain ⟨u, hu⟩ := (I.hok b o e).there
    exact ⟨u, inB b u hu nb (tr b o e)⟩
  · obtain ⟨na, e⟩ := drop_some e
    refine (I.hok a o e).stay (fun b u hb z => ?_) (fun b z => ?_) fun b xs z => ?_
    · have hb' : b ≠ x ∧ b ∉ frs (envOfC qual scope s.heap.objs.size f cd :: outer) := by
        rcases hb with rfl | hb
        · exact ⟨na, tr b o e⟩
        · exact ⟨ne_of hb hx (by intro z; cases z), tr b _ hb⟩
      exact k1 b u (inB b u z hb'.1 hb'.2)
    · rw [drop_ne (ne_of z hx (by intro z; cases z))]; exact z
    · rw [drop_ne (ne_of z hx (by intro z; cases z))]; exact z
  · obtain ⟨sl, e1⟩ := I.base.slot b o e n hb hx
    obtain ⟨_, o2, h1, h2⟩ := I.ok.funs.mem hb
    have h1 : s.heap.get? b = some o2 := h1
    rw [e] at h1; cases h1
    obtain ⟨sl', e2⟩ := k4 b _ e1 h2
    exact ⟨sl', e2⟩
  · have z := I.base.free b o e n hx
    by_cases nb : b = x
    · rw [nb]; exact drop_same
    · rw [drop_ne nb]; exact z
  · obtain ⟨o', e1⟩ := I.base.there b o e hx
    obtain ⟨u, u1, _⟩ := dk b o' e1
    exact ⟨u, u1⟩
  · have z := I.base.tups b xs e
    rw [drop_ne (ne_of z hx (by intro z; cases z))]; exact z
  · have z := I.base.frzs b o u e
    rw [drop_ne (ne_of z hx (by intro z; cases z))]; exact z
  · obtain ⟨m, z⟩ := I.base.tbls b ps e
    exact ⟨m, by rw [drop_ne (ne_of z hx (by intro z; cases z))]; exact z⟩
theorem passes_x {P : Program} {w : World} {K : PySem.W.Frag} {mg : Str → Option Value} {base : Heap} {N : List Str} {qual : Str} {scope : Scope} {f : Addr} {cd : Value} {A : Around} {outer : List Env} {s : Shared} {H : Hp} {E : XK} {CX : CXT} :
    PassesOwn (model P w) (cxOf CX P w K mg base N qual scope f cd A outer s H E).A (cxOf CX P w K mg base N qual scope f cd A outer s H E).env (cxOf CX P w K mg base N qual scope f cd A outer s H E).xe :=
  fun _ _ h => wpAny_leaving_again (SameStack.refl _) h
/-! ### the class -/
structure XCls (K : PySem.W.Frag) (C N fI : Addr) : Prop where
  obj : ∃ nm q bs sn sub ab col dd k0 k1 k2 k3 k5, K.lookup C = some (excClassObj nm q C N bs bmV true sn sub ab col dd k0 k1 k2 k3 k5 "ValueError.__new__")
  ns : ∃ (c : Value) (dd : Option Addr) (es : Array DictEntry) (ep : Nat) (sl : Array (Option Value)), K.lookup N = some ⟨c, dd, .dict es ep, sl⟩ ∧ (es.toList.all fun e => match e.key with | .str _ _ => true | _ => false) = true
  init : PySem.W.nsIn K N "__init__" = some (some (.ref fI))
  fn : ∃ o, K.lookup fI = some o ∧ o.cls = .type "function"
  kp : PySem.W.keepIn K (.ref C) = true
  no1 : PySem.W.nsIn K N "__setattr__" = some none
  no2 : PySem.W.nsIn K N "__getattribute__" = some none
  no3 : PySem.W.nsIn K N "__getattr__" = some none
/-- the class has no such attribute, nor has ValueError -/
structure XNo (K : PySem.W.Frag) (N : Addr) (f : Str) : Prop where
  own : PySem.W.nsIn K N f = some none
  base : typeLookup (.type "ValueError") f = pure none
theorem ns_in {K : PySem.W.Frag} {h : Heap} {N : Addr} (KX : K.In h) {c : Value} {dd : Option Addr} {es : Array DictEntry} {ep : Nat} {sl : Array (Option Value)} (e : K.lookup N = some ⟨c, dd, .dict es ep, sl⟩)
    (hs : (es.toList.all fun e => match e.key with | .str _ _ => true | _ => false) = true) : h.Ns N (nsFind es) ∧ ∀ (n : Str) (r : Option Value), PySem.W.nsIn K N n = some r → nsFind es n = r := by
  refine ⟨⟨_, es, ep, KX _ _ e, rfl, fun y hy => ?_, fun _ => rfl⟩, fun n r hr => ?_⟩
  · have := List.all_eq_true.mp hs y (Array.mem_toList_iff.mpr hy)
    cases q : y.key with
    | str a b => exact ⟨a, b, rfl⟩
    | _ => rw [q] at this; cases this
  · unfold PySem.W.nsIn at hr
    rw [e] at hr
    dsimp only at hr
    unfold nsFind findBy
    rw [← Array.find?_toList]
    split at hr
    · rename_i y hy
      cases hr
      rw [hy]; rfl
    · rename_i hy
      split at hr
      · cases hr
      · cases hr
        rw [hy]; rfl
theorem XCls.open_ {K : PySem.W.Frag} {C N fI : Addr} {h : Heap} (T : XCls K C N fI) (KX : K.In h) :
    ∃ nm q bs sn sub ab col dd k0 k1 k2 k3 k5 mN oI, h.get? C = some (excClassObj nm q C N bs bmV true sn sub ab col dd k0 k1 k2 k3 k5 "ValueError.__new__") ∧ h.Ns N mN ∧ mN "__init__" = some (.ref fI) ∧ h.get? fI = some oI ∧ oI.cls = .type "function" ∧
      mN "__setattr__" = none ∧ mN "__getattribute__" = none ∧ mN "__getattr__" = none ∧ ∀ f, XNo K N f → mN f = none := by
  obtain ⟨nm, q, bs, sn, sub, ab, col, dd, k0, k1, k2, k3, k5, hC⟩ := T.obj
  obtain ⟨c, d2, es, ep, sl, e, hs⟩ := T.ns
  obtain ⟨hn, look⟩ := ns_in KX e hs
  obtain ⟨oI, hI, cI⟩ := T.fn
  exact ⟨nm, q, bs, sn, sub, ab, col, dd, k0, k1, k2, k3, k5, _, oI, KX _ _ hC, hn, look _ _ T.init, KX _ _ hI, cI, look _ _ T.no1, look _ _ T.no2, look _ _ T.no3, fun f z => look _ _ z.own⟩
/-! ### C(..), self.f = v, raise, try, e.f -/
section
variable {X : Cx} {CX : CXT} {k : Nat} {f C N : Addr} {fd : FuncData} {ps : List Str} {sp : Sp} {E : XK} {x m : Str} {p pos apos : Pos} {e o : Expr} {es : List Expr} {ta : TE} {t : TA}
def tMakeX (C : Addr) (sp : Sp) (E : XK) (t : TA) : TE := fun σ H Q => t σ H fun vs H1 => vs.length ≤ sizeLine ∧ ∀ x tt, H1 x = none → sp (.ref x :: vs) (upd H1 x (XO x C tt none)) (fun v H2 => v = .non ∧ Q (.ref x) H2) E
theorem pe_makeX (T : XCls X.K C N f) (F : FnOk X.prog X.w X.K X.mg X.base CX k f fd ps sp) (hr : Room (k + 1) X.A) (hg : Gl X x) (hm : X.mg x = some (.ref C)) (hb : Binds X.K fd ps []) (hx : Passes CX X E) (hex : X.ex = [])
    (ha : PA X (e :: es) t) (hdb : (x == ("__debug__" : Str)) = false := by decide) (he : starEach (e :: es) X.env = (false, eval e X.env) :: starEach es X.env := by rfl) (hpl : (backTo pos (starEach es X.env)).any (·.1) = false := by rfl)
    {pins : List (Addr × Obj)} {s : Shared} {σ : St} {H : Hp} {Q : VK} (I : Inv X pins σ H s) (h : t σ H fun vs H1 => vs.length ≤ sizeLine ∧ ∀ x tt, H1 x = none → sp (.ref x :: vs) (upd H1 x (XO x C tt none)) (fun v H2 => v = .non ∧ Q (.ref x) H2) E) :
    wpAny (model X.prog X.w) X.A (eval (.Call (.Name x p) (e :: es) [] pos) X.env) (fun u s' => ∃ y H', u = .ref y ∧ X.s_0.heap.get? y = none ∧ Inv X pins σ H' s' ∧ Q (.ref y) H') X.xe s := by
  refine wpAny_Call_Name_kw (ld_glob I hg hm ?_ hdb)
  refine PySem.W.callWith_K (h₀ := X.base) I.ok.mod.kin T.kp (thn (ha pos pins s σ H _ I h) fun us s1 ⟨vs, H1, I1, r, hz, q⟩ => ⟨I1.kIn, ?_⟩) he hpl
  obtain ⟨nm, q', bs, sn, sub, ab, col, dd, k0, k1, k2, k3, k5, mN, oI, hC, hn, hi, hfI, cI, _⟩ := T.open_ I1.kIn
  obtain ⟨h1, g, d, tk, os⟩ := s1
  show wpAny (model X.prog X.w) X.A (call (.ref C) us) _ X.xe _
  refine wpAny_call_exc_init (hrest := by rw [← r.length]; exact hz) PySem.F.excBase_ValueError hC hn hi hfI cI fun h' y hm => ?_
  obtain ⟨tt, ey, _, _⟩ := hm.there
  have I2 : Inv X pins σ (upd H1 y (XO y C tt none)) ⟨h', g, d, tk, os⟩ := I1.laidN (t' := tk) hm.keeps hm.new (xo_ok ey)
  have hq := q y tt (I1.hok.noneOf hm.new)
  have r2 : Vals (V.ref y :: vs) (Value.ref y :: us) := .cons rfl r
  have hl : (Value.ref y :: us ++ []).length = ps.length := by
    have z := r2.length
    rw [F.len _ _ _ _ hq] at z
    rw [List.append_nil]
    exact z.symm
  have bd := hb ⟨h', g, d, tk, os⟩ (Value.ref y :: us) I2.kIn hl
  rw [List.append_nil] at bd
  refine wpAny_call (codeAny_mono (F.run _ X.stack _ _ ⟨Value.ref y :: us, []⟩ (Value.ref y :: us) _ _ E (hr.make C us []) (I2.env0.make C us []) bd r2 hq) fun r s' hq' => ?_)
  have ynew : X.s_0.heap.get? y = none := by
    cases z : X.s_0.heap.get? y with
    | none => rfl
    | some oo =>
      obtain ⟨o', e1⟩ := I1.base.there y oo z (by rw [hex]; simp)
      have := hm.new
      rw [e1] at this; cases this
  cases r with
  | error e => exact hx pins σ _ _ e s' I2 hq'
  | ok fl =>
    cases fl with
    | ret u =>
      obtain ⟨v, H', I3, rv, ev, q3⟩ := I2.after hq'
      subst ev
      exact ⟨rv, y, H', rfl, ynew, I3, q3⟩
    | next => exact False.elim hq'
    | brk => exact False.elim hq'
    | cont => exact False.elim hq'
/-- raise C(..): EX is what the def promises of its error -/
def XQ (C : Addr) (EX : XK) : VK := fun r H2 => ∃ y tt dx, r = V.ref y ∧ H2 y = some (XO y C tt (some dx)) ∧ EX (.ref C) (some dx) (dropH H2 y)
def tRaiseX (C : Addr) (sp : Sp) (E EX : XK) (t : TA) : TS := fun _ σ H => t σ H fun vs H1 => vs.length ≤ sizeLine ∧ ∀ x tt, H1 x = none → sp (.ref x :: vs) (upd H1 x (XO x C tt none)) (fun v H2 => v = .non ∧ XQ C EX (.ref x) H2) E
theorem ps_raiseX {EX : XK} {rpos : Pos} (T : XCls X.K C N f) (F : FnOk X.prog X.w X.K X.mg X.base CX k f fd ps sp) (hr : Room (k + 1) X.A) (hg : Gl X x) (hm : X.mg x = some (.ref C)) (hb : Binds X.K fd ps []) (hx : Passes CX X E) (hex : X.ex = []) (hc : X.calm = true)
    (hxe : ∀ (pins : List (Addr × Obj)) (σ : St) (H2 : Hp) (s2 : Shared) (y tt dx : Addr), Inv X pins σ H2 s2 → H2 y = some (XO y C tt (some dx)) → X.s_0.heap.get? y = none → EX (.ref C) (some dx) (dropH H2 y) → X.xe (.ref y) s2)
    (ha : PA X (e :: es) t) (hdb : (x == ("__debug__" : Str)) = false := by decide) (he : starEach (e :: es) X.env = (false, eval e X.env) :: starEach es X.env := by rfl) (hpl : (backTo pos (starEach es X.env)).any (·.1) = false := by rfl) :
    PS X (.Raise (some (.Call (.Name x p) (e :: es) [] pos)) none rpos) (tRaiseX C sp E EX t) := by
  intro pins s σ H D I h
  obtain ⟨nm, q', bs, sn, sub, ab, col, dd, k0, k1, k2, k3, k5, hC⟩ := T.obj
  refine Raise_has (C := C) (nm := nm) (q := q') (N := N) (bs := bs) (bm := bmV) (hdct := true) (sn := sn) (sub := sub) (ab := ab) (col := col) (dd := dd) (k0 := k0) (k1 := k1) (k2 := k2) (k3 := k3) (k5 := k5) (newId := "ValueError.__new__") (by decide +kernel) (I.ok.hd hc) ?_
  refine thn (pe_makeX (Q := XQ C EX) T F hr hg hm hb hx hex ha hdb he hpl I h) fun u s1 z => ?_
  obtain ⟨y, H1, rfl, yn, I1, y', tt, dx, ey, hy, q⟩ := z
  cases ey
  obtain ⟨eo, _, _⟩ := I1.hok y _ hy
  exact ⟨y, _, _, rfl, I1.kIn _ _ hC, eo, rfl, rfl, rfl, hxe pins σ H1 s1 y tt dx I1 hy yn q⟩
end
end L2
end
section
set_option Elab.async false
set_option linter.all false
set_option maxRecDepth 100000
namespace L2
open PySem PySem.Spec PyProof.Rows Xc
section
variable {X : Cx} {C N fI : Addr} {o e value : Expr} {f : Str} {pos pos' : Pos} {ta tv : TE}
/-- self.f = v, self an error -/
def sXFld (K : PySem.W.Frag) (C N : Addr) (ta tv : TE) (f : Str) : TS := fun D σ H => tv σ H fun y H1 => ta σ H1 fun v H2 => ∃ x tt, v = .ref x ∧ XNo K N f ∧
  ((H2 x = some (XO x C tt none) ∧ ∀ dx, H2 dx = none → dx ≠ x → D.nx σ (upd (upd H2 dx (XD dx [(f, y)])) x (XO x C tt (some dx)))) ∨
   (∃ dx fs, H2 x = some (XO x C tt (some dx)) ∧ H2 dx = some (XD dx fs) ∧ dx ≠ x ∧ fs.length < 1000 ∧ D.nx σ (upd H2 dx (XD dx (putF f y fs)))))
theorem ps_xfld (T : XCls X.K C N fI) (ha : PE X o ta) (hv : PE X value tv) (hs : swapsWith value (some (.Attribute o f pos')) pos.line X.env = pure false) : PS X (.Assign [.Attribute o f pos'] value pos) (sXFld X.K C N ta tv f) := by
  intro pins s σ H D I h
  refine plainObj_wpAny_Assign_Attribute (thn (hv pins s σ H _ I h) fun u s1 ⟨y, H1, I1, ry, q⟩ => thn (ha pins s1 σ H1 _ I1 q) fun ov s2 ⟨v, H2, I2, rv, x, tt, ev, no, q2⟩ => ?_) hs
  subst ev
  obtain rfl : ov = Value.ref x := rv
  obtain ⟨nm, q', bs, sn, sub, ab, col, dd, k0, k1, k2, k3, k5, mN, oI, hC, hn, hi, hfI, cI, n1, n2, n3, look⟩ := T.open_ I2.kIn
  obtain ⟨h2, g, d, tk, os⟩ := s2
  rcases q2 with ⟨ex, q2⟩ | ⟨dx, fs, ex, ed, ne, lz, q2⟩
  · obtain ⟨eo, _, _⟩ := I2.hok x _ ex
    have eo : h2.get? x = some { cls := .ref C, dict := none, data := .fields #[.ref tt, .none, .none, .none, .bool false, .none] } := eo
    refine first_attr F.store_ValueError hC hn n1 (look f no) no.base eo rfl rfl rfl fun h' k e1 e2 e3 => ?_
    have hd0 : H2 h2.objs.size = none := I2.hok.fresh (Nat.le_refl _)
    have hdx : h2.objs.size ≠ x := Nat.ne_of_gt (Heap.lt_size eo)
    have new1 : ∀ b, h2.get? b ≠ none → b ≠ h2.objs.size := fun b z w => by
      rw [w] at z
      exact z (Heap.get?_none_of_le (Nat.le_refl _))
    refine ⟨σ, _, ?_, q2 h2.objs.size hd0 hdx⟩
    refine I2.un (t' := k) (h' := h') (H' := upd (upd H2 h2.objs.size (XD h2.objs.size [(f, y)])) x (XO x C tt (some h2.objs.size))) ⟨fun b u z n _ _ => e3 b u (fun w => by rw [w, ex] at n; cases n) z, fun b u z n _ _ => ⟨u.slots, e3 b u (fun w => by rw [w, ex] at n; cases n) z⟩, fun b u z n _ => ?_, fun b u z _ => ?_, fun b xs z => ?_, fun b u xs z => ?_, fun b ps z => ?_⟩ fun a ob z => ?_
    · have z : h2.get? b = some u := z
      rw [upd_ne (fun w => by rw [w, ex] at n; cases n), upd_ne (new1 b (by rw [z]; simp))]; exact n
    · by_cases w : b = x
      · rw [w]; exact ⟨_, e1⟩
      · exact ⟨u, e3 b u w z⟩
    · rw [upd_ne (ne_of z ex (by intro w; cases w)), upd_ne (ne_of_none z hd0)]; exact z
    · rw [upd_ne (ne_of z ex (by intro w; cases w)), upd_ne (ne_of_none z hd0)]; exact z
    · exact ⟨#[], by rw [upd_ne (ne_of z ex (by intro w; cases w)), upd_ne (ne_of_none z hd0), z]; simp⟩
    · by_cases w : a = x
      · subst w
        rw [upd_same] at z; cases z
        exact xo_ok e1
      · rw [upd_ne w] at z
        by_cases w2 : a = h2.objs.size
        · subst w2
          rw [upd_same] at z; cases z
          refine xd_ok e2 (fun g => ?_) fun g hg => ?_
          · by_cases w3 : g = f
            · subst w3
              simp only [List.lookup, beq_self_eq_true, if_true]
              exact ry
            · have : (g == f) = false := beq_eq_false_iff_ne.mpr w3
              simp only [List.lookup, this, if_neg w3]
              trivial
          · by_cases w3 : g = f
            · subst w3; simp
            · exact absurd (if_neg w3) hg
        · rw [upd_ne w2] at z
          refine (I2.hok a ob z).stay (fun b u hb w4 => e3 b u (fun w5 => ?_) w4) (fun b w4 => ?_) fun b xs w4 => ?_
          · subst w5
            rcases hb with w6 | w6
            · exact w w6.symm
            · rw [ex] at w6; cases w6
          · rw [upd_ne (ne_of w4 ex (by intro w; cases w)), upd_ne (ne_of_none w4 hd0)]; exact w4
          · rw [upd_ne (ne_of w4 ex (by intro w; cases w)), upd_ne (ne_of_none w4 hd0)]; exact w4
  · obtain ⟨eo, _, _⟩ := I2.hok x _ ex
    have eo : h2.get? x = some { cls := .ref C, dict := some dx, data := .fields #[.ref tt, .none, .none, .none, .bool false, .none] } := eo
    obtain ⟨⟨mA, n, r, wi⟩, _, _⟩ := I2.hok dx _ ed
    have xC : x ≠ C := fun w => by
      obtain ⟨_, _, _, _, _, _, _, _, _, _, _, _, _, hc⟩ := T.obj
      have := (I2.bs C _ (I2.ok.mod.kin _ _ hc)).2
      rw [← w, ex] at this; cases this
    have hz : (fs.map (·.1)).length ≤ sizeLine := by rw [List.length_map, sizeLine_eq]; omega
    refine store_attr (ns := fs.map (·.1)) F.store_ValueError hC hn n1 (look f no) no.base xC (mA := mA) ⟨_, eo, rfl, (fun c w => by cases w), .inr ⟨dx, rfl, ne, n⟩⟩ (fun h' k J kept same => ?_) wi hz
    obtain ⟨o1, f1, f2, f3, f4, f5⟩ := same _ eo
    have f5 := f5 dx rfl
    have eo' : h'.get? x = some { cls := .ref C, dict := some dx, data := .fields #[.ref tt, .none, .none, .none, .bool false, .none] } := by
      obtain ⟨c1, d1, dt1, s1⟩ := o1
      cases f2; cases f3; cases f4; cases f5
      exact f1
    obtain ⟨o2, g1, g2, g3, g4⟩ := J
    rw [eo'] at g1; cases g1
    rcases g4 with ⟨w, _⟩ | ⟨d2, w1, w2, w3⟩
    · cases w
    · cases w1
      refine ⟨σ, _, I2.write (t' := k) (x := dx) (e := dx) (by rw [ed]; trivial) (.inl rfl) (fun b u hb z => ?_) (let ⟨oo, _, _, w, _⟩ := w3; ⟨oo, w⟩) (xd_ok w3 (fun g => ?_) fun g hg => ?_), q2⟩
      · by_cases w : b = x
        · subst w
          have z : h2.get? b = some u := z
          rw [eo] at z; cases z
          exact eo'
        · exact kept b u w (fun o0 d0 p1 p2 => by rw [eo] at p1; cases p1; cases p2; exact hb) z
      · rw [lookup_putF]
        by_cases w : g = f
        · rw [if_pos w, if_pos w]; exact ry
        · rw [if_neg w, if_neg w]; exact r g
      · by_cases w : g = f
        · rw [w]; exact (keys_putF f y fs).1
        · exact (keys_putF f y fs).2 g (wi g fun z => hg (by rw [if_neg w]; exact z))
/-- e.f, e an error that was caught -/
def tXFld (K : PySem.W.Frag) (C N : Addr) (ta : TE) (f : Str) : TE := fun σ H Q => ta σ H fun v H1 => ∃ x dx fs y, v = .ref x ∧ H1 x = some (XE x C dx) ∧ H1 dx = some (XD dx fs) ∧ XNo K N f ∧ fs.lookup f = some y ∧ Q y H1
theorem pe_xfld (T : XCls X.K C N fI) (he : PE X e ta) (hb : attributeBase e f X.env (eval e X.env) = eval e X.env) : PE X (.Attribute e f pos) (tXFld X.K C N ta f) := by
  intro pins s σ H Q I h
  refine attr_of hb (thn (he pins s σ H _ I h) fun u s1 ⟨v, H1, I1, rx, x, dx, fs, y, ev, ex, ed, no, l, q⟩ => ?_)
  subst ev
  obtain rfl : u = Value.ref x := rx
  obtain ⟨nm, q', bs, sn, sub, ab, col, dd, k0, k1, k2, k3, k5, mN, oI, hC, hn, hi, hfI, cI, n1, n2, n3, look⟩ := T.open_ I1.kIn
  obtain ⟨⟨ob, vs, e1, e2, e3, e4⟩, _, _⟩ := I1.hok x _ ex
  obtain ⟨⟨mA, n, r, wi⟩, _, _⟩ := I1.hok dx _ ed
  obtain ⟨uy, hu, ru⟩ := RelO.some_of (v := y) (o := mA f) (by rw [← l]; exact r f)
  obtain ⟨h1, g, d, tk, os⟩ := s1
  exact held_attr F.attrBase_ValueError hC hn n2 n3 (look f no) no.base e1 e2 e3 e4 n hu (PySem.W.handedOut_of (handed_of ru)) ⟨y, H1, I1.tok _, ru, q⟩
end
end L2
end
section
set_option Elab.async false
set_option linter.all false
set_option maxRecDepth 100000
namespace L2
open PySem PySem.Spec PyProof.Rows Xc
section
variable {X : Cx} {pins : List (Addr × Obj)} {σ : St} {H : Hp} {s : Shared}
/-- a name is taken away again -/
theorem Inv.gone {j : Nat} {n : Str} {h' : Heap} {m : Str → Option Value} {v : Option Value} {t' : Nat} (I : Inv X pins σ H s) (hN : X.N.Nodup) (hj : X.N[j]? = some n)
    (hl : ∀ (i : Nat) (x : Str) (v : V), X.N[i]? = some x → σ[i]? = some (some v) → Vis X.env.scope x → ∃ u, RelV v u ∧ Look X.env s.heap m x u)
    (hn : h'.Ns X.env.locals (fun x => if x = n then v else m x)) (hs : Heap.SameBut X.env.locals s.heap h') : Inv X pins (σ.set j none) H { s with heap := h', toks := t' } := by
  obtain ⟨m0, hn0, _⟩ := id I.loc
  obtain ⟨oL, _, _, hoL, _⟩ := id hn0
  have neL : ∀ b o, X.s_0.heap.get? b = some o → b ≠ X.env.locals := fun b o e => Nat.ne_of_lt (Nat.lt_of_lt_of_le (Heap.lt_size e) I.ok.above)
  have hok : HOk X.prog X.w H h' := fun b ob e => by
    refine (I.hok b ob e).stay (fun c w' hc q => (hs.2 c ?_).trans q) (fun _ q => q) fun _ _ q => q
    rintro rfl
    rcases hc with rfl | hc
    · rw [I.free] at e; cases e
    · rw [I.free] at hc; cases hc
  refine ⟨I.ok, I.os, I.bare, ⟨fun b o e n hb hx => (hs.2 b (neL b o e)).trans (I.base.keep b o e n hb hx), fun b o e n hb hx => ?_, I.base.free, fun b o e hx => ?_, I.base.tups, I.base.frzs, I.base.tbls⟩, ⟨_, hn, fun i y v' e1 e2 e3 => ?_⟩, fun y c e => ?_, I.free, I.freeC, fun p hp => ?_, hok, by simpa using I.len⟩
  · obtain ⟨sl, e1⟩ := I.base.slot b o e n hb hx
    exact ⟨sl, (hs.2 b (neL b o e)).trans e1⟩
  · obtain ⟨o', e1⟩ := I.base.there b o e hx
    exact ⟨o', (hs.2 b (neL b o e)).trans e1⟩
  · by_cases hij : i = j
    · subst hij
      rw [List.getElem?_set] at e2
      split at e2
      · split at e2 <;> cases e2
      · exact absurd rfl (by assumption)
    · rw [List.getElem?_set_ne (Ne.symm hij)] at e2
      obtain ⟨u', r', q⟩ := hl i y v' e1 e2 e3
      refine ⟨u', r', ?_⟩
      rcases q with ⟨k, e⟩ | ⟨k, c, e, z⟩
      · refine .inl ⟨k, ?_⟩
        have : y ≠ n := fun e => hij (nodup_ix hN e1 (e ▸ hj))
        simp [this, e]
      · exact .inr ⟨k, c, e, z.sameBut hs (I.cne y c e)⟩
  · obtain ⟨w', z⟩ := I.cell y c e
    exact ⟨w', z.sameBut hs (I.cne y c e)⟩
  · obtain ⟨e, n, ne, nf, d⟩ := I.pin p hp
    exact ⟨(hs.2 p.1 ne).trans e, n, ne, nf, d⟩
end
section
variable {X : Cx} {k : Nat} {f C N fI : Addr} {fd : FuncData} {p : Str} {sp : Sp} {fn cn y n : Str} {a : Expr} {ta : TA} {i j : Nat} {py fp cpos apos np hpos pos : Pos} {b0 : Stmt} {suite : List Stmt} {ts : TS}
def tTryX (C : Addr) (sp : Sp) (ta : TA) (i j : Nat) (ts : TS) : TS := fun D σ H => ta σ H fun vs H1 => sp vs H1 (fun r H2 => D.nx (σ.set i (some r)) H2)
  (fun _ od H2 => ∃ dx, od = some dx ∧ ∀ x, H2 x = none → ts { nx := fun _ _ => False, rt := D.rt } (σ.set j (some (.ref x))) (upd H2 x (XE x C dx)))
theorem ps_tryX (T : XCls X.K C N fI) (F : FnOk X.prog X.w X.K X.mg X.base (CXF X.prog X.w C) k f fd [p] sp) (hr : Room k X.A) (hb : Binds X.K fd [p] []) (hg : Gl X fn) (hm : X.mg fn = some (.ref f)) (hk : PySem.W.keepIn X.K (.ref f) = true)
    (hcg : Gl X cn) (hcm : X.mg cn = some (.ref C)) (ha : PA X.nox [a] ta) (hN : X.N.Nodup) (hi : X.N[i]? = some y) (hy : Loc X.env.scope y) (hj : X.N[j]? = some n) (hn : X.env.kindOf n = some .local) (hst : X.stack = X.env :: X.outer) (hfm : X.env.frame = some X.env.locals)
    (hsu : ∀ x, PSs (X.within (.ref x)) (b0 :: suite) ts)
    (hfy : X.fn y = true ∨ X.env.scope.names.lookup y = some .local := by first | exact .inl rfl | exact .inr rfl | assumption)
    (hs : swapsWith (.Call (.Name fn fp) [a] [] cpos) (some (.Name y py)) apos.line X.env = pure false := by rfl) (hdb : (fn == ("__debug__" : Str)) = false := by decide) (hdc : (cn == ("__debug__" : Str)) = false := by decide) (he : starEach [a] X.env = (false, eval a X.env) :: starEach [] X.env := by rfl) :
    PS X (.Try [.Assign [.Name y py] (.Call (.Name fn fp) [a] [] cpos) apos] [.ExceptHandler (some (.Name cn np)) (some n) (b0 :: suite) hpos] [] [] pos) (tTryX C sp ta i j ts) := by
  intro pins s σ H D I h
  refine wpAny_Try_except ?_
  refine wpAny_execs_cons (wpAny_Assign_Name (wpAny_Call_Name_kw (ld_glob I hg hm ?_ hdb)) hs)
  refine PySem.W.callWith_K (h₀ := X.base) I.ok.mod.kin hk (wpAny_mono (ha cpos pins s σ H _ (I.wish _) h) (fun us s1 z => ?_) fun _ _ z => z.elim) he rfl
  obtain ⟨vs, H1, I1, r, q⟩ := z
  have I1 : Inv X pins σ H1 s1 := I1.unwish
  refine ⟨I1.kIn, ?_⟩
  have hl : (us ++ []).length = [p].length := by rw [List.append_nil, ← r.length]; exact F.len _ _ _ _ q
  have bd := hb s1 us I1.kIn hl
  rw [List.append_nil] at bd
  refine wpAny_call (codeAny_mono (F.run X.A X.stack s1 H1 ⟨us, []⟩ us vs _ _ hr I1.env0 bd r q) fun r s' hq => ?_)
  cases r with
  | ok fl =>
    cases fl with
    | next => exact False.elim hq
    | brk => exact False.elim hq
    | cont => exact False.elim hq
    | ret u =>
      obtain ⟨v, H2, I2, rv, q2⟩ := I1.after hq
      exact store_ok I2 hN hi hy rv (fun s3 I3 => wpAny_execs_nil (wpAny_execs_nil ⟨_, H2, I3, q2⟩)) hfy
  | error e =>
    obtain ⟨x, dx, H', B, a0, rfl, hos, hbare, Fl, d1, ed, qs⟩ := hq
    cases ed
    have funs : ∀ b ∈ frs X.stack, ∃ o, s1.heap.get? b = some o ∧ ∀ vs, o.data ≠ .fields vs := fun b hb => (I1.stack.mem hb).2
    have inv_of : ∀ h2, Flies X.prog X.w C X.stack H1 s1 x dx H' B a0 h2 → Inv X pins σ (upd H' x (XE x C dx)) { s' with heap := h2 } := fun h2 G => by
      obtain ⟨_, _, _, oe, vs2, T2, oT, ts2, g1, ⟨g2, _⟩, g3, _⟩ := G.fly
      obtain ⟨oe', g1', gd⟩ := G.dict
      rw [g1] at g1'; cases g1'
      refine I1.call' (ch := []) hos ⟨G.un.keep, G.un.slot, fun b o e n hx => ?_, G.un.there, fun b xs e => ?_, fun b o u e => ?_, fun b ps e => ?_⟩ (fun b o e => ?_) hbare (fun b z => absurd z (by simp))
      · rw [upd_ne (fun z => by rw [z, G.new] at e; cases e)]; exact G.un.free b o e n hx
      · have z := G.un.tups b xs e
        rw [upd_ne (ne_of_none z G.noH)]; exact z
      · have z := G.un.frzs b o u e
        rw [upd_ne (ne_of_none z G.noH)]; exact z
      · obtain ⟨m, z⟩ := G.un.tbls b ps e
        exact ⟨m, by rw [upd_ne (ne_of_none z G.noH)]; exact z⟩
      · by_cases w : b = x
        · subst w
          rw [upd_same] at e; cases e
          exact xe_ok g1 g2 gd g3
        · rw [upd_ne w] at e
          exact (G.hok b o e).stay (fun _ _ _ z => z) (fun c z => by rw [upd_ne (ne_of_none z G.noH)]; exact z) fun c xs z => by rw [upd_ne (ne_of_none z G.noH)]; exact z
    have hfr : X.A.frames = some (X.env :: X.outer) := by rw [I.ok.frames, hst]
    have st1 : wpAny (model X.prog X.w) X.A (noteFrame (.ref x) X.env) (fun _ s2 => ∃ h2, s2 = { s' with heap := h2 } ∧ Heap.HeldW B (X.env :: X.outer) x (.ref C) a0 X.env.locals h2 ∧ s'.heap.UpToSlots h2) (fun _ _ => False) s' :=
      wpAny_looks_onW hfr hfm (by rw [← hst]; exact Fl.fly) fun h2 z1 z2 => ⟨h2, rfl, z1, z2⟩
    refine wpAny_mono ((kd_noteFrame _ _).any st1) (fun _ s2 z => ?_) fun _ _ z => z.elim
    obtain ⟨⟨h2, rfl, held, up2⟩, dk2⟩ := z
    have st2 : wpAny (model X.prog X.w) X.A (setFlight (.ref x) none) (fun _ s3 => ∃ h3, s3 = { s' with heap := h3 } ∧ Heap.FlyingW B (X.env :: X.outer) x (.ref C) a0 h3 ∧ h2.UpToSlots h3) (fun _ _ => False) { s' with heap := h2 } :=
      wpAny_landsW held fun h3 z1 z2 => ⟨h3, rfl, z1, z2⟩
    refine wpAny_mono ((kd_setFlight _ _).any st2) (fun _ s3 z => ?_) fun _ _ z => z.elim
    obtain ⟨⟨h3, rfl, fly3, up3⟩, dk3⟩ := z
    have Fl3 := Fl.step (.inr funs) (by rw [hst]; exact fly3) (up2.trans up3) (dk2.trans dk3)
    have I3 := inv_of h3 Fl3
    obtain ⟨nm, q', bs, sn, sub, ab, col, dd, k0, k1, k2, k3, k5, hC⟩ := T.obj
    refine clause_own (C := C) (nm := nm) (q := q') (N := N) (bs := bs) (bm := bmV) (hdct := true) (sn := sn) (sub := sub) (ab := ab) (col := col) (dd := dd) (k0 := k0) (k1 := k1) (k2 := k2) (k3 := k3) (k5 := k5) (newId := "ValueError.__new__") (by decide +kernel)
      (ld_glob (X := X.within (.ref x)) (I3.within (.ref x)) hcg hcm ⟨rfl, I3.kIn _ _ hC, fly3.there, ?_⟩ hdc)
    have st4 : wpAny (model X.prog X.w) (X.A.mark (some (.ref x))) (setFlight (.ref x) none) (fun _ s4 => ∃ h4, s4 = { s' with heap := h4 } ∧ Heap.FlyingW B (X.env :: X.outer) x (.ref C) a0 h4 ∧ h3.UpToSlots h4) (fun _ _ => False) { s' with heap := h3 } :=
      lands_againW fly3 fun h4 z1 z2 => ⟨h4, rfl, z1, z2⟩
    refine wpAny_mono ((kd_setFlight _ _).any st4) (fun _ s4 z => ?_) fun _ _ z => z.elim
    obtain ⟨⟨h4, rfl, fly4, up4⟩, dk4⟩ := z
    have Fl4 := Fl3.step (.inr funs) (by rw [hst]; exact fly4) up4 dk4
    have I4 := (inv_of h4 Fl4).within (.ref x)
    refine store_ok (X := X.within (.ref x)) (v := .ref x) I4 hN hj (.inl hn) rfl (fun s5 I5 => ?_) (.inr hn)
    refine thn (hsu x pins s5 _ _ _ I5 (qs x Fl.noH)) fun fl s6 q6 => ?_
    cases fl with
    | next => obtain ⟨_, _, _, z⟩ := q6; exact z.elim
    | brk => obtain ⟨_, _, _, z⟩ := q6; exact z.elim
    | cont => obtain ⟨_, _, _, z⟩ := q6; exact z.elim
    | ret u =>
      obtain ⟨v, σ', H3, I6, rv, q⟩ := q6
      obtain ⟨m, hns, hl⟩ := I6.loc
      have hcls : (X.env.scope.kind == .class || (X.env.scope.kind == .module && X.env.locals != X.env.globals)) = false := by rw [I.ok.kind]; rfl
      exact wpAny_nameGoes_keeps hn hns hcls fun h7 v7 hn7 hs7 => ⟨v, σ'.set j none, H3, (I6.without I.ok).gone hN hj hl hn7 hs7, rv, q⟩
end
end L2
end
section
set_option Elab.async false
set_option linter.all false
set_option maxRecDepth 100000
namespace Sl
open PySem PySem.Spec PyProof.Rows L2 TL
/-! the text by places (written by a script from the linked text) -/
theorem sc_Dimmer_init : FnScope ["self", "number", "channel", "curve", "limit", "load", "phase"] ["self", "number", "channel", "curve", "limit", "load", "phase"] (defScope s_Dimmer_init) := ⟨rfl, rfl, rfl, by decide +kernel, rfl, by decide +kernel, by decide +kernel⟩
theorem sc_TextFault_init : FnScope ["self", "line", "why"] ["self", "line", "why"] (defScope s_TextFault_init) := ⟨rfl, rfl, rfl, by decide +kernel, rfl, by decide +kernel, by decide +kernel⟩
theorem sc_bytes_of : FnScope ["words", "sign"] ["words"] (defScope s_bytes_of) := ⟨rfl, rfl, rfl, by decide +kernel, rfl, by decide +kernel, by decide +kernel⟩
theorem sc_lines_of : FnScope ["text", "lines", "start", "place", "sign"] ["text"] (defScope s_lines_of) := ⟨rfl, rfl, rfl, by decide +kernel, rfl, by decide +kernel, by decide +kernel⟩
theorem sc_fields_of : FnScope ["signs", "fields", "sign"] ["signs"] (defScope s_fields_of) := ⟨rfl, rfl, rfl, by decide +kernel, rfl, by decide +kernel, by decide +kernel⟩
theorem sc_is_decimal : FnScope ["field", "sign"] ["field"] (defScope s_is_decimal) := ⟨rfl, rfl, rfl, by decide +kernel, rfl, by decide +kernel, by decide +kernel⟩
theorem sc_read_number : FnScope ["field", "least", "most", "value", "sign"] ["field", "least", "most"] (defScope s_read_number) := ⟨rfl, rfl, rfl, by decide +kernel, rfl, by decide +kernel, by decide +kernel⟩
theorem sc_read_curve : FnScope ["field", "curve"] ["field"] (defScope s_read_curve) := ⟨rfl, rfl, rfl, by decide +kernel, rfl, by decide +kernel, by decide +kernel⟩
theorem sc_read_dimmer : FnScope ["line", "fields", "number", "channel", "curve", "limit", "load", "phase"] ["line"] (defScope s_read_dimmer) := ⟨rfl, rfl, rfl, by decide +kernel, rfl, by decide +kernel, by decide +kernel⟩
theorem sc_read_patch : FnScope ["text", "dimmers", "before", "place", "line", "dimmer"] ["text"] (defScope s_read_patch) := ⟨rfl, rfl, rfl, by decide +kernel, rfl, by decide +kernel, by decide +kernel⟩
theorem sc_write_dimmer : FnScope ["dimmer", "fields"] ["dimmer"] (defScope s_write_dimmer) := ⟨rfl, rfl, rfl, by decide +kernel, rfl, by decide +kernel, by decide +kernel⟩
theorem sc_write_patch : FnScope ["dimmers", "text", "dimmer"] ["dimmers"] (defScope s_write_patch) := ⟨rfl, rfl, rfl, by decide +kernel, rfl, by decide +kernel, by decide +kernel⟩
theorem sc_Dealing_init : FnScope ["self", "sums", "phases"] ["self", "sums", "phases"] (defScope s_Dealing_init) := ⟨rfl, rfl, rfl, by decide +kernel, rfl, by decide +kernel, by decide +kernel⟩
theorem sc_Dealing_with_load : FnScope ["self", "load", "phase", "sums"] ["self", "load", "phase"] (defScope s_Dealing_with_load) := ⟨rfl, rfl, rfl, by decide +kernel, rfl, by decide +kernel, by decide +kernel⟩
theorem sc_Dealing_is_needless : FnScope ["self", "phase"] ["self", "phase"] (defScope s_Dealing_is_needless) := ⟨rfl, rfl, rfl, by decide +kernel, rfl, by decide +kernel, by decide +kernel⟩
theorem sc_no_loads_dealt : FnScope [] [] (defScope s_no_loads_dealt) := ⟨rfl, rfl, rfl, by decide +kernel, rfl, by decide +kernel, by decide +kernel⟩
theorem sc_next_dealings : FnScope ["dealing", "load", "following", "phase"] ["dealing", "load"] (defScope s_next_dealings) := ⟨rfl, rfl, rfl, by decide +kernel, rfl, by decide +kernel, by decide +kernel⟩
theorem sc_least_thinkable : FnScope ["loads", "third"] ["loads"] (defScope s_least_thinkable) := ⟨rfl, rfl, rfl, by decide +kernel, rfl, by decide +kernel, by decide +kernel⟩
theorem sc_deal_evenly : FnScope ["loads", "enough", "best", "bound", "waiting", "dealing", "dealt"] ["loads"] (defScope s_deal_evenly) := ⟨rfl, rfl, rfl, by decide +kernel, rfl, by decide +kernel, by decide +kernel⟩
theorem sc_nearest : FnScope ["dividend", "divisor"] ["dividend", "divisor"] (defScope s_nearest) := ⟨rfl, rfl, rfl, by decide +kernel, rfl, by decide +kernel, by decide +kernel⟩
theorem sc_curve_at : FnScope ["curve", "level"] ["curve", "level"] (defScope s_curve_at) := ⟨rfl, rfl, rfl, by decide +kernel, rfl, by decide +kernel, by decide +kernel⟩
theorem sc_given_by : FnScope ["dimmer", "level"] ["dimmer", "level"] (defScope s_given_by) := ⟨rfl, rfl, rfl, by decide +kernel, rfl, by decide +kernel, by decide +kernel⟩
theorem sc_least_level : FnScope ["dimmer", "much", "level"] ["dimmer", "much"] (defScope s_least_level) := ⟨rfl, rfl, rfl, by decide +kernel, rfl, by decide +kernel, by decide +kernel⟩
theorem sc_CallReader_init : FnScope ["self", "calls"] ["self", "calls"] (defScope s_CallReader_init) := ⟨rfl, rfl, rfl, by decide +kernel, rfl, by decide +kernel, by decide +kernel⟩
theorem sc_CallReader_at_end : FnScope ["self"] ["self"] (defScope s_CallReader_at_end) := ⟨rfl, rfl, rfl, by decide +kernel, rfl, by decide +kernel, by decide +kernel⟩
theorem sc_CallReader_take_number : FnScope ["self", "number"] ["self"] (defScope s_CallReader_take_number) := ⟨rfl, rfl, rfl, by decide +kernel, rfl, by decide +kernel, by decide +kernel⟩
theorem sc_CallReader_take_row : FnScope ["self", "length", "row"] ["self"] (defScope s_CallReader_take_row) := ⟨rfl, rfl, rfl, by decide +kernel, rfl, by decide +kernel, by decide +kernel⟩
theorem sc_is_channel : FnScope ["number"] ["number"] (defScope s_is_channel) := ⟨rfl, rfl, rfl, by decide +kernel, rfl, by decide +kernel, by decide +kernel⟩
theorem sc_is_phase : FnScope ["number"] ["number"] (defScope s_is_phase) := ⟨rfl, rfl, rfl, by decide +kernel, rfl, by decide +kernel, by decide +kernel⟩
theorem sc_can_be_dealt : FnScope ["loads", "load"] ["loads"] (defScope s_can_be_dealt) := ⟨rfl, rfl, rfl, by decide +kernel, rfl, by decide +kernel, by decide +kernel⟩
theorem sc_Desk_init : FnScope ["self"] ["self"] (defScope s_Desk_init) := ⟨rfl, rfl, rfl, by decide +kernel, rfl, by decide +kernel, by decide +kernel⟩
theorem sc_Desk_level_of : FnScope ["self", "channel"] ["self", "channel"] (defScope s_Desk_level_of) := ⟨rfl, rfl, rfl, by decide +kernel, rfl, by decide +kernel, by decide +kernel⟩
theorem sc_Desk_given_now : FnScope ["self", "dimmer"] ["self", "dimmer"] (defScope s_Desk_given_now) := ⟨rfl, rfl, rfl, by decide +kernel, rfl, by decide +kernel, by decide +kernel⟩
theorem sc_Desk_find_dimmer : FnScope ["self", "number", "dimmer"] ["self", "number"] (defScope s_Desk_find_dimmer) := ⟨rfl, rfl, rfl, by decide +kernel, rfl, by decide +kernel, by decide +kernel⟩
theorem sc_Desk_answer_patch : FnScope ["self", "text", "dimmers", "fault"] ["self", "text"] (defScope s_Desk_answer_patch) := ⟨rfl, rfl, rfl, by decide +kernel, rfl, by decide +kernel, by decide +kernel⟩
theorem sc_Desk_answer_print : FnScope ["self", "text"] ["self"] (defScope s_Desk_answer_print) := ⟨rfl, rfl, rfl, by decide +kernel, rfl, by decide +kernel, by decide +kernel⟩
theorem sc_Desk_answer_set : FnScope ["self", "channel", "level"] ["self", "channel", "level"] (defScope s_Desk_answer_set) := ⟨rfl, rfl, rfl, by decide +kernel, rfl, by decide +kernel, by decide +kernel⟩
theorem sc_Desk_answer_level : FnScope ["self", "channel"] ["self", "channel"] (defScope s_Desk_answer_level) := ⟨rfl, rfl, rfl, by decide +kernel, rfl, by decide +kernel, by decide +kernel⟩
theorem sc_Desk_answer_out : FnScope ["self", "number", "dimmer"] ["self", "number"] (defScope s_Desk_answer_out) := ⟨rfl, rfl, rfl, by decide +kernel, rfl, by decide +kernel, by decide +kernel⟩
theorem sc_Desk_answer_outs : FnScope ["self", "given", "dimmer"] ["self"] (defScope s_Desk_answer_outs) := ⟨rfl, rfl, rfl, by decide +kernel, rfl, by decide +kernel, by decide +kernel⟩
theorem sc_Desk_answer_channel : FnScope ["self", "channel", "numbers", "dimmer"] ["self", "channel"] (defScope s_Desk_answer_channel) := ⟨rfl, rfl, rfl, by decide +kernel, rfl, by decide +kernel, by decide +kernel⟩
theorem sc_Desk_answer_needs : FnScope ["self", "number", "much", "dimmer", "level"] ["self", "number", "much"] (defScope s_Desk_answer_needs) := ⟨rfl, rfl, rfl, by decide +kernel, rfl, by decide +kernel, by decide +kernel⟩
theorem sc_Desk_answer_load : FnScope ["self", "phase", "dimmer"] ["self", "phase"] (defScope s_Desk_answer_load) := ⟨rfl, rfl, rfl, by decide +kernel, rfl, by decide +kernel, by decide +kernel⟩
theorem sc_Desk_answer_evenly : FnScope ["self", "loads", "dealing"] ["self", "loads"] (defScope s_Desk_answer_evenly) := ⟨rfl, rfl, rfl, by decide +kernel, rfl, by decide +kernel, by decide +kernel⟩
theorem sc_answer_next : FnScope ["desk", "reader", "call", "channel", "level", "number", "much"] ["desk", "reader"] (defScope s_answer_next) := ⟨rfl, rfl, rfl, by decide +kernel, rfl, by decide +kernel, by decide +kernel⟩
theorem sc_answers : FnScope ["calls", "desk", "reader", "told", "answer"] ["calls"] (defScope s_answers) := ⟨rfl, rfl, rfl, by decide +kernel, rfl, by decide +kernel, by decide +kernel⟩
/-! ### short forms -/
theorem ifT {c : Bool} {A B : Prop} (h : c = true) (a : A) : if c = true then A else B := by rw [if_pos h]; exact a
theorem ifF {c : Bool} {A B : Prop} (h : c = false) (b : B) : if c = true then A else B := by rw [if_neg (by rw [h]; decide)]; exact b
theorem ifB {c : Bool} {A B : Prop} (a : c = true → A) (b : c = false → B) : if c = true then A else B := by
  cases c with
  | true => exact ifT rfl (a rfl)
  | false => exact ifF rfl (b rfl)
theorem tyes {σ : L2.St} {H : Hp} {F : Bool → Hp → Prop} (h : F true H) : tYes σ H F := h
def nv (l : List Nat) : List V := l.map fun (n : Nat) => V.int (n : Int)
def bv (t : Sg.Bytes) : List V := t.map fun c => V.int ((c.toNat : Nat) : Int)
theorem nv_len (l : List Nat) : (nv l).length = l.length := List.length_map ..
theorem bv_len (t : Sg.Bytes) : (bv t).length = t.length := List.length_map ..
theorem nv_at {l : List Nat} {i n : Nat} (h : l[i]? = some n) : (nv l)[i]? = some (V.int (n : Int)) := by unfold nv; rw [List.getElem?_map, h]; rfl
theorem bv_at {t : Sg.Bytes} {i : Nat} {c : UInt8} (h : t[i]? = some c) : (bv t)[i]? = some (V.int ((c.toNat : Nat) : Int)) := by unfold bv; rw [List.getElem?_map, h]; rfl
theorem nv_of {l : List Nat} {i : Nat} {v : V} (h : (nv l)[i]? = some v) : ∃ n, l[i]? = some n ∧ v = V.int (n : Int) := by
  unfold nv at h; rw [List.getElem?_map] at h
  cases e : l[i]? with
  | none => rw [e] at h; cases h
  | some n => rw [e] at h; cases h; exact ⟨n, rfl, rfl⟩
theorem bv_of {t : Sg.Bytes} {i : Nat} {v : V} (h : (bv t)[i]? = some v) : ∃ c, t[i]? = some c ∧ v = V.int ((c.toNat : Nat) : Int) := by
  unfold bv at h; rw [List.getElem?_map] at h
  cases e : t[i]? with
  | none => rw [e] at h; cases h
  | some n => rw [e] at h; cases h; exact ⟨n, rfl, rfl⟩
theorem ref_of {as : List Addr} {i : Nat} {v : V} (h : (as.map V.ref)[i]? = some v) : ∃ a, as[i]? = some a ∧ v = V.ref a := by
  rw [List.getElem?_map] at h
  cases e : as[i]? with
  | none => rw [e] at h; cases h
  | some n => rw [e] at h; cases h; exact ⟨n, rfl, rfl⟩
theorem ref_at {as : List Addr} {i : Nat} {a : Addr} (h : as[i]? = some a) : (as.map V.ref)[i]? = some (V.ref a) := by rw [List.getElem?_map, h]; rfl
theorem take_snoc {α : Type} {l : List α} {i : Nat} {x : α} (h : l[i]? = some x) : l.take (i + 1) = l.take i ++ [x] := by rw [List.take_add_one, h]; rfl
theorem szl : sizeLine = 16777216 := by decide
theorem lk (f g : Str) (v : V) (fs : List (Str × V)) : ((f, v) :: fs).lookup g = if g = f then some v else fs.lookup g := by
  rw [List.lookup_cons]
  by_cases h : g = f
  · subst h; simp
  · rw [if_neg h]
    have : (g == f) = false := by simpa using h
    rw [this]
theorem lk_here (f : Str) (v : V) (fs : List (Str × V)) : ((f, v) :: fs).lookup f = some v := by rw [lk, if_pos rfl]
theorem lk_skip {f g : Str} (h : ¬ g = f) (v : V) (fs : List (Str × V)) : ((f, v) :: fs).lookup g = fs.lookup g := by rw [lk, if_neg h]
theorem pf_nil (f : Str) (v : V) : putF f v [] = [(f, v)] := rfl
theorem pf_here (f : Str) (v x : V) (fs : List (Str × V)) : putF f v ((f, x) :: fs) = (f, v) :: fs := by rw [putF, if_pos rfl]
theorem pf_skip {f g : Str} (h : ¬ g = f) (v x : V) (fs : List (Str × V)) : putF f v ((g, x) :: fs) = (g, x) :: putF f v fs := by rw [putF, if_neg h]
/-! ### heaps -/
theorem _root_.L2.Same.new {H : Hp} {a : Addr} {o : HO} (h : H a = none) : Same H (upd H a o) := fun b u e => by rw [upd_ne (ne_of_none e h)]; exact e
/-- a thing that is new since H is written -/
theorem _root_.L2.Same.put {H H1 : Hp} {a : Addr} {o : HO} (s : Same H H1) (h : H a = none) : Same H (upd H1 a o) := fun b u e => by rw [upd_ne (ne_of_none e h)]; exact s b u e
theorem _root_.L2.Same.add {H H1 : Hp} {a : Addr} {o : HO} (s : Same H H1) (h : H1 a = none) : Same H (upd H1 a o) := s.trans (Same.new h)
theorem at_new {H : Hp} {a b : Addr} {o u : HO} (h : H a = some u) (hb : H b = none) : upd H b o a = some u := by rw [upd_ne (ne_of_none h hb)]; exact h
theorem _root_.L2.Same.tup {K : PySem.W.Frag} {H H' : Hp} {a : Addr} {xs : List V} (e : Same H H') (h : SqT K H a xs) : SqT K H' a xs := by
  rcases h with h | h
  · rcases h with h | ⟨o, h⟩
    · exact .inl (.inl (e _ _ h))
    · exact .inl (.inr ⟨o, e _ _ h⟩)
  · exact .inr h
/-! ### expressions -/
section
variable {X : Cx} {pos : Pos}
/-- a constant of the module -/
def IsI (mg : Str → Option Value) (x : Str) (i : Int) : Prop := ∃ t, mg x = some (.int i t)
theorem pk {x : Str} {i : Int} (h : IsI X.mg x i) (hg : Gl X x := by rfl) (hd : (x == ("__debug__" : Str)) = false := by decide) : PE X (.Name x pos) (tC (.int i)) := by
  obtain ⟨t, h⟩ := h
  exact pe_glob hg h ⟨t, rfl⟩ hd
/-- a def of the module, with its promise -/
def Dn (P : Program) (w : World) (K : PySem.W.Frag) (mg : Str → Option Value) (base : Heap) (k : Nat) (x : Str) (ps : List Str) (sp : Sp) : Prop :=
  ∃ f fd, FnOk P w K mg base CX0 k f fd ps sp ∧ mg x = some (.ref f) ∧ PySem.W.keepIn K (.ref f) = true ∧ Binds K fd ps []
/-- a method -/
def Md (P : Program) (w : World) (K : PySem.W.Frag) (mg : Str → Option Value) (base : Heap) (k : Nat) (C : Addr) (m : Str) (ps : List Str) (sp : Sp) : Prop :=
  ∃ f fd, FnOk P w K mg base CX0 k f fd ps sp ∧ Meth K C m f ∧ Binds K fd ps []
/-- a class that is made -/
def Cd (P : Program) (w : World) (K : PySem.W.Frag) (mg : Str → Option Value) (base : Heap) (k : Nat) (x : Str) (C : Addr) (ps : List Str) (sp : Sp) : Prop :=
  ∃ f fd, FnOk P w K mg base CX0 k f fd ps sp ∧ Mk K C f ∧ mg x = some (.ref C) ∧ Binds K fd ps []
variable {k : Nat} {x m : Str} {C : Addr} {ps : List Str} {sp : Sp} {p apos : Pos} {e o : Expr} {es : List Expr} {ta : TE} {t : TA}
theorem pe_dn (D : Dn X.prog X.w X.K X.mg X.base k x ps sp) (hr : Room k X.A) (ha : PA X (e :: es) t) (hg : Gl X x := by rfl) (hdb : (x == ("__debug__" : Str)) = false := by decide)
    (he : starEach (e :: es) X.env = (false, eval e X.env) :: starEach es X.env := by rfl) (hpl : (backTo pos (starEach es X.env)).any (·.1) = false := by rfl) : PE X (.Call (.Name x p) (e :: es) [] pos) (tCall sp [] E0 t) := by
  obtain ⟨f, fd, F, hm, hk, hb⟩ := D
  exact pe_call F hr hg hm hk hb .nil pass0 ha hdb he hpl
theorem pe_dn0 (D : Dn X.prog X.w X.K X.mg X.base k x ps sp) (hr : Room k X.A) (hg : Gl X x := by rfl) (hdb : (x == ("__debug__" : Str)) = false := by decide) : PE X (.Call (.Name x p) [] [] pos) (tCall sp [] E0 tNil) := by
  obtain ⟨f, fd, F, hm, hk, hb⟩ := D
  exact pe_call0 F hr hg hm hk hb .nil pass0 hdb
theorem pe_cd (D : Cd X.prog X.w X.K X.mg X.base k x C ps sp) (hr : Room (k + 1) X.A) (ha : PA X (e :: es) t) (hg : Gl X x := by rfl) (hdb : (x == ("__debug__" : Str)) = false := by decide)
    (he : starEach (e :: es) X.env = (false, eval e X.env) :: starEach es X.env := by rfl) (hpl : (backTo pos (starEach es X.env)).any (·.1) = false := by rfl) : PE X (.Call (.Name x p) (e :: es) [] pos) (tMake C sp [] E0 t) := by
  obtain ⟨f, fd, F, M, hm, hb⟩ := D
  exact pe_make M F hr hg hm hb .nil pass0 ha hdb he hpl
theorem pe_cd0 (D : Cd X.prog X.w X.K X.mg X.base k x C ps sp) (hr : Room (k + 1) X.A) (hg : Gl X x := by rfl) (hdb : (x == ("__debug__" : Str)) = false := by decide) : PE X (.Call (.Name x p) [] [] pos) (tMake C sp [] E0 tNil) := by
  obtain ⟨f, fd, F, M, hm, hb⟩ := D
  exact pe_make0 M F hr hg hm hb .nil pass0 hdb
theorem pe_md {pl : Sem Bool} (D : Md X.prog X.w X.K X.mg X.base k C m ps sp) (c : Cls X.K C) (hr : Room k X.A) (he : PE X o ta) (ha : PA X (e :: es) t)
    (hst : starEach (e :: es) X.env = (false, eval e X.env) :: starEach es X.env := by rfl) (hpl : (backTo pos (starEach es X.env)).any (·.1) = false := by rfl)
    (ht : eval (.Call (.Attribute o m apos) (e :: es) [] pos) X.env = (do
      let ov ← eval o X.env
      standAt apos.atName
      let (f, first) ← holding [ov] (getMethod ov m pl)
      callWith pos f first (backTo pos (starEach (e :: es) X.env)) (backToKw pos (keywordEach [] X.env))) := by rfl) : PE X (.Call (.Attribute o m apos) (e :: es) [] pos) (tMeth C m sp [] E0 ta t) := by
  obtain ⟨f, fd, F, hm, hb⟩ := D
  exact pe_meth he c hm F hr hb .nil pass0 ha hst hpl ht
theorem pe_md0 {pl : Sem Bool} (D : Md X.prog X.w X.K X.mg X.base k C m ps sp) (c : Cls X.K C) (hr : Room k X.A) (he : PE X o ta)
    (ht : eval (.Call (.Attribute o m apos) [] [] pos) X.env = (do
      let ov ← eval o X.env
      standAt apos.atName
      let (f, first) ← holding [ov] (getMethod ov m pl)
      callWith pos f first (backTo pos (starEach [] X.env)) (backToKw pos (keywordEach [] X.env))) := by rfl) : PE X (.Call (.Attribute o m apos) [] [] pos) (tMeth C m sp [] E0 ta tNil) := by
  obtain ⟨f, fd, F, hm, hb⟩ := D
  exact pe_meth0 he c hm F hr hb .nil pass0 ht
theorem pe_len (h : X.mg "len" = none) (he : PE X e ta) (hg : Gl X "len" := by rfl) (hs : starEach (e :: []) X.env = (false, eval e X.env) :: starEach [] X.env := by rfl) :
    PE X (.Call (.Name "len" p) [e] [] pos) (tCB (fun xs H Q => ∃ p ys, xs = [.ref p] ∧ (SqL X.K H p ys ∨ SqT X.K H p ys) ∧ Q (.int ys.length) H) (tCons ta tNil)) :=
  pe_callB call_len_seq hg h PySem.boot_len (pa_cons he pa_nil hs) (by decide) (by decide) hs rfl
end
/-! ### loops over enumerate(list), comprehensions over a text -/
theorem for_enum {K : PySem.W.Frag} {a : Addr} {xs : List V} {g : TG} {tb : TS} {D : Ends} {σ : L2.St} {H : Hp} (Pv : Nat → L2.St → Hp → Prop) (h0 : Pv 0 σ H) (hl : ∀ i σ H, i ≤ xs.length → Pv i σ H → SqL K H a xs)
    (hs : ∀ i x σ H T, xs[i]? = some x → Pv i σ H → H T = none → g (.ref T) σ (upd H T (.tup [.int ((i : Nat) : Int), x])) fun σ2 H2 => tb { D with nx := Pv (i + 1), ct := Pv (i + 1), bk := D.nx } σ2 H2) (hd : ∀ σ H, Pv xs.length σ H → D.nx σ H) :
    ∃ W : Nat → Nat → L2.St → Hp → Prop, (∃ m, W 0 m σ H) ∧ ∀ i m σ H, W i m σ H →
      ((Ite K a).stop i H ∧ D.nx σ H) ∨ ((Ite K a).go i H ∧ ∃ N : L2.St → Hp → Prop, (∀ σ' H', N σ' H' → ∃ m', m' < m ∧ W (i + 1) m' σ' H') ∧ ∀ x H', (Ite K a).yld i H x H' → g x σ H' fun σ2 H2 => tb { D with nx := N, ct := N, bk := D.nx } σ2 H2) := by
  refine ⟨fun i m σ H => m = xs.length - i ∧ i ≤ xs.length ∧ Pv i σ H, ⟨xs.length, by simp, Nat.zero_le _, h0⟩, ?_⟩
  rintro i m σ H ⟨rfl, hi, p⟩
  have q := hl i σ H hi p
  by_cases hlt : i < xs.length
  · refine .inr ⟨⟨xs, xs[i], q, by simp [hlt]⟩, Pv (i + 1), fun σ' H' p' => ⟨xs.length - (i + 1), by omega, rfl, hlt, p'⟩, fun x H' y => ?_⟩
    obtain ⟨T, z, rfl, hT, rfl, y⟩ := y
    exact hs i z σ H T (y xs q) p hT
  · have e : i = xs.length := by omega
    subst e
    exact .inl ⟨⟨xs, q, Nat.le_refl _⟩, hd σ H p⟩
theorem lc_str {x : Str} {g : TG} {tt : TT} {te : TE} {vs : List Nat} {σ : L2.St} {H1 : Hp} {D : Addr} {Qd : Hp → Prop} (Pv : Nat → Hp → Prop) (h0 : Pv 0 (upd H1 D (.lst [])))
    (hs : ∀ i c H, (tl x)[i]? = some c → Pv i H → g (.str ⟨#[c]⟩) (wipe σ vs) H fun σ2 H2 => wipe σ2 vs = wipe σ vs ∧ tt σ2 H2 fun b H3 =>
      if b = true then te σ2 H3 fun y H4 => ∃ acc, H4 D = some (.lst acc) ∧ acc.length < sizeLine ∧ Pv (i + 1) (upd H4 D (.lst (acc ++ [y]))) else Pv (i + 1) H3) (hd : ∀ H, Pv (tl x).length H → Qd H) :
    ∃ W : Nat → Nat → Hp → Prop, (∃ m, W 0 m (upd H1 D (.lst []))) ∧ ∀ i m H, W i m H →
      ((Its x).stop i H ∧ Qd H) ∨ ((Its x).go i H ∧ ∃ Nx : Hp → Prop, (∀ H', Nx H' → ∃ m', m' < m ∧ W (i + 1) m' H') ∧ ∀ v H', (Its x).yld i H v H' → g v (wipe σ vs) H' fun σ2 H2 => wipe σ2 vs = wipe σ vs ∧ tt σ2 H2 fun b H3 =>
        if b = true then te σ2 H3 fun y H4 => ∃ acc, H4 D = some (.lst acc) ∧ acc.length < sizeLine ∧ Nx (upd H4 D (.lst (acc ++ [y]))) else Nx H3) := by
  refine ⟨fun i m H => m = (tl x).length - i ∧ i ≤ (tl x).length ∧ Pv i H, ⟨(tl x).length, by simp, Nat.zero_le _, h0⟩, ?_⟩
  rintro i m H ⟨rfl, hi, p⟩
  have sz : x.cps.size = (tl x).length := by simp
  by_cases hlt : i < (tl x).length
  · refine .inr ⟨by show i < x.cps.size; omega, Pv (i + 1), fun H' p' => ⟨(tl x).length - (i + 1), by omega, rfl, hlt, p'⟩, fun v H' y => ?_⟩
    obtain ⟨e, c, y, ev⟩ := y
    subst e ev
    exact hs i c _ (by simpa using y) p
  · have e : i = (tl x).length := by omega
    subst e
    exact .inl ⟨by show x.cps.size ≤ _; omega, hd H p⟩
end Sl
end
section
set_option Elab.async false
set_option linter.all false
set_option maxRecDepth 100000
namespace Sl
open PySem PySem.Spec PyProof.Rows L2 TL
/-- the classes, the tuple of the curves -/
structure Ad where
  cD : Addr
  cT : Addr
  nT : Addr
  fT : Addr
  cL : Addr
  cR : Addr
  cK : Addr
  tC : Addr
def cname (k : Nat) : Str := match k with
  | 0 => "linear"
  | 1 => "square"
  | 2 => "soft"
  | _ => "switch"
def cnames : List Str := ["linear", "square", "soft", "switch"]
/-- what the top has written -/
structure Txt (K : PySem.W.Frag) (mg : Str → Option Value) (A : Ad) : Prop where
  clD : Cls K A.cD
  nD1 : NoAttr K A.cD "number"
  nD2 : NoAttr K A.cD "channel"
  nD3 : NoAttr K A.cD "curve"
  nD4 : NoAttr K A.cD "limit"
  nD5 : NoAttr K A.cD "load"
  nD6 : NoAttr K A.cD "phase"
  clL : Cls K A.cL
  nL1 : NoAttr K A.cL "sums"
  nL2 : NoAttr K A.cL "phases"
  clR : Cls K A.cR
  nR1 : NoAttr K A.cR "calls"
  nR2 : NoAttr K A.cR "place"
  clK : Cls K A.cK
  nK1 : NoAttr K A.cK "dimmers"
  nK2 : NoAttr K A.cK "levels"
  xT : XCls K A.cT A.nT A.fT
  xT1 : XNo K A.nT "line"
  xT2 : XNo K A.nT "why"
  mT : mg "TextFault" = some (.ref A.cT)
  mC : mg "CURVES" = some (.ref A.tC)
  tC : ∀ H, SqT K H A.tC (cnames.map V.str)
  i1 : IsI mg "HIGHEST_DIMMER" 128
  i2 : IsI mg "CHANNELS" 64
  i3 : IsI mg "FULL_LIMIT" 100
  i4 : IsI mg "MOST_LOAD" 5000
  i5 : IsI mg "PHASES" 3
  i6 : IsI mg "LINE_END" 10
  i7 : IsI mg "BLANK" 32
  i8 : IsI mg "NOUGHT" 48
  i9 : IsI mg "NINE" 57
  i10 : IsI mg "FIELDS" 6
  i11 : IsI mg "MOST_DIGITS" 4
  i12 : IsI mg "NO_SUCH_LINE" 1
  i13 : IsI mg "NOT_RISING" 2
  i14 : IsI mg "FULL_LEVEL" 100
  i15 : IsI mg "SWITCH_LEVEL" 50
  i16 : IsI mg "FULL_OUTPUT" 255
  i17 : IsI mg "MOST_TEXT" 8192
  i18 : IsI mg "MOST_DEALT" 9
  i19 : IsI mg "OUT_OF_BOUNDS" (-1)
  i20 : IsI mg "TOO_LONG" (-2)
  i21 : IsI mg "NO_SUCH_LEVEL" (-3)
  i22 : IsI mg "NO_SUCH_DIMMER" (-4)
  i23 : IsI mg "NO_PATCH" (-6)
  j0 : IsI mg "PATCH" 0
  j1 : IsI mg "PRINT_PATCH" 1
  j2 : IsI mg "SET_LEVEL" 2
  j3 : IsI mg "LEVEL" 3
  j4 : IsI mg "OUT" 4
  j5 : IsI mg "OUTS" 5
  j6 : IsI mg "CHANNEL" 6
  j7 : IsI mg "NEEDS" 7
  j8 : IsI mg "LOAD" 8
  j9 : IsI mg "EVENLY" 9
  b1 : mg "len" = none
  b2 : mg "range" = none
  b3 : mg "enumerate" = none
  b4 : mg "ord" = none
  b5 : mg "str" = none
  b6 : mg "all" = none
  b7 : mg "sum" = none
  b8 : mg "max" = none
  b9 : mg "list" = none
/-! ### dimmers -/
def dfs (d : Sg.Dimmer) : List (Str × V) := [("number", .int d.number), ("channel", .int d.channel), ("curve", .str (cname d.curve)), ("limit", .int d.limit), ("load", .int d.watts), ("phase", .int d.phase)]
theorem dfs1 (d : Sg.Dimmer) : (dfs d).lookup ("number" : Str) = some (.int d.number) := by unfold dfs; rw [lk_here]
theorem dfs2 (d : Sg.Dimmer) : (dfs d).lookup ("channel" : Str) = some (.int d.channel) := by unfold dfs; rw [lk_skip (by decide), lk_here]
theorem dfs3 (d : Sg.Dimmer) : (dfs d).lookup ("curve" : Str) = some (.str (cname d.curve)) := by unfold dfs; rw [lk_skip (by decide), lk_skip (by decide), lk_here]
theorem dfs4 (d : Sg.Dimmer) : (dfs d).lookup ("limit" : Str) = some (.int d.limit) := by unfold dfs; rw [lk_skip (by decide), lk_skip (by decide), lk_skip (by decide), lk_here]
theorem dfs5 (d : Sg.Dimmer) : (dfs d).lookup ("load" : Str) = some (.int d.watts) := by unfold dfs; rw [lk_skip (by decide), lk_skip (by decide), lk_skip (by decide), lk_skip (by decide), lk_here]
theorem dfs6 (d : Sg.Dimmer) : (dfs d).lookup ("phase" : Str) = some (.int d.phase) := by unfold dfs; rw [lk_skip (by decide), lk_skip (by decide), lk_skip (by decide), lk_skip (by decide), lk_skip (by decide), lk_here]
def DimAt (A : Ad) (H : Hp) (a : Addr) (d : Sg.Dimmer) : Prop := ∃ dx, H a = some (.ins A.cD dx (dfs d))
theorem DimAt.same {A : Ad} {H H' : Hp} {a : Addr} {d : Sg.Dimmer} (h : DimAt A H a d) (s : Same H H') : DimAt A H' a d := let ⟨dx, e⟩ := h; ⟨dx, s _ _ e⟩
/-- dimmers, one behind another -/
structure DimsAt (A : Ad) (H : Hp) (as : List Addr) (ds : List Sg.Dimmer) : Prop where
  len : as.length = ds.length
  at_ : ∀ (i : Nat) (a : Addr) (d : Sg.Dimmer), as[i]? = some a → ds[i]? = some d → DimAt A H a d
theorem DimsAt.same {A : Ad} {H H' : Hp} {as : List Addr} {ds : List Sg.Dimmer} (h : DimsAt A H as ds) (s : Same H H') : DimsAt A H' as ds := ⟨h.len, fun i a d e1 e2 => (h.at_ i a d e1 e2).same s⟩
theorem DimsAt.nil {A : Ad} {H : Hp} : DimsAt A H [] [] := ⟨rfl, fun i a d e _ => by simp at e⟩
theorem DimsAt.get {A : Ad} {H : Hp} {as : List Addr} {ds : List Sg.Dimmer} (h : DimsAt A H as ds) {i : Nat} {a : Addr} (e : as[i]? = some a) : ∃ d, ds[i]? = some d ∧ DimAt A H a d := by
  have l : i < as.length := (List.getElem?_eq_some_iff.mp e).1
  have l2 : i < ds.length := by rw [← h.len]; exact l
  exact ⟨ds[i], List.getElem?_eq_getElem l2, h.at_ i a _ e (List.getElem?_eq_getElem l2)⟩
theorem DimsAt.snoc {A : Ad} {H : Hp} {as : List Addr} {ds : List Sg.Dimmer} {a : Addr} {d : Sg.Dimmer} (h : DimsAt A H as ds) (hd : DimAt A H a d) : DimsAt A H (as ++ [a]) (ds ++ [d]) := by
  refine ⟨by simp [h.len], fun i b e h1 h2 => ?_⟩
  by_cases hi : i < as.length
  · rw [List.getElem?_append_left hi] at h1
    rw [List.getElem?_append_left (by rw [← h.len]; exact hi)] at h2
    exact h.at_ i b e h1 h2
  · rw [List.getElem?_append_right (by omega)] at h1
    rw [List.getElem?_append_right (by rw [← h.len]; omega)] at h2
    rw [h.len] at h1
    cases hz : i - ds.length with
    | zero =>
      rw [hz] at h1 h2
      cases h1; cases h2
      exact hd
    | succ n =>
      rw [hz] at h1
      simp at h1
section
variable {P : Program} {w : World} {K : PySem.W.Frag} {mg : Str → Option Value} {base : Heap} {A : Ad}
/-! ### levels.py -/
def spNearest : Sp := fun vs H Q _ => ∃ a b : Int, vs = [.int a, .int b] ∧ 0 < b ∧ b < 100000000 ∧ Q (.int ((2 * a + b) / (2 * b))) H
theorem ok_nearest {f : Addr} {fd : FuncData} (F : Fun K "nearest" "nearest" s_nearest f fd) : FnOk P w K mg base CX0 1 f fd ["dividend", "divisor"] spNearest := by
  refine F.ok sc_nearest (fun vs H Q E h => ?_) (fun cdv B outer s H vs Q E hr h => ?_)
  · obtain ⟨a, b, rfl, _⟩ := h
    rfl
  · obtain ⟨a, b, rfl, h1, h2, k⟩ := h
    refine ⟨_, pss_one (ps_ret (pe_op op_fdiv (pe_op op_add (pe_op op_mul pe_int (pv 0)) (pv 1)) (pe_op op_mul pe_int (pv 1)))), ?_⟩
    exact ⟨_, rfl, _, _, rfl, rfl, .inl ⟨by decide, by decide⟩, _, rfl, _, _, rfl, rfl, _, rfl, _, _, rfl, rfl, .inl ⟨by decide, by decide⟩, _, _, rfl, rfl, ⟨by omega, by omega⟩, k⟩
def spCurve : Sp := fun vs H Q _ => ∃ c L : Nat, vs = [.str (cname c), .int L] ∧ c ≤ 3 ∧ L ≤ 100 ∧ Q (.int (Sg.curved c L : Nat)) H
theorem ok_curve {f : Addr} {fd : FuncData} (F : Fun K "curve_at" "curve_at" s_curve_at f fd) (T : Txt K mg A) (D1 : Dn P w K mg base 1 "nearest" ["dividend", "divisor"] spNearest) : FnOk P w K mg base CX0 2 f fd ["curve", "level"] spCurve := by
  refine F.ok sc_curve_at (fun vs H Q E h => ?_) (fun cdv B outer s H vs Q E hr h => ?_)
  · obtain ⟨c, L, rfl, _⟩ := h
    rfl
  · obtain ⟨c, L, rfl, hc, hL, k⟩ := h
    refine ⟨_, pss_cons (ps_if (pt_cmpR op_eq (pv 0) pe_str (nomark _)) (pss_one (ps_ret (pe_dn D1 hr (pa_cons (pe_op op_mul (pk T.i16) (pv 1)) (pa_cons pe_int pa_nil))))) pss_nil)
      (pss_cons (ps_if (pt_cmpR op_eq (pv 0) pe_str (nomark _)) (pss_one (ps_ret (pe_dn D1 hr (pa_cons (pe_op op_mul (pe_op op_mul (pk T.i16) (pv 1)) (pv 1)) (pa_cons pe_int pa_nil))))) pss_nil)
      (pss_cons (ps_if (pt_cmpR op_eq (pv 0) pe_str (nomark _)) (pss_one (ps_ret (pe_dn D1 hr (pa_cons (pe_op op_mul (pe_op op_mul (pe_op op_mul (pk T.i16) (pv 1)) (pv 1)) (pe_op op_sub pe_int (pe_op op_mul pe_int (pv 1)))) (pa_cons pe_int pa_nil))))) pss_nil)
      (pss_one (ps_ret (pe_ifExp (pt_cmpR op_ge (pv 1) (pk T.i15) (nomark _)) (pk T.i16) pe_int))))), ?_⟩
    have bL : CMul (255 : Int) (L : Int) := .inl ⟨by decide, by decide⟩
    have bR : ∀ z : Int, CMul z (L : Int) := fun z => .inr ⟨by omega, by omega⟩
    match c, hc, k with
    | 0, _, k =>
      refine ⟨_, rfl, rfl, _, rfl, ifT (by decide +kernel) ?_⟩
      refine ⟨_, rfl, _, _, rfl, rfl, bL, 255 * (L : Int), 100, rfl, by decide, by decide, ?_⟩
      rw [Mx.curved0] at k
      exact k
    | 1, _, k =>
      refine ⟨_, rfl, rfl, _, rfl, ifF (by decide +kernel) ?_⟩
      refine ⟨_, rfl, rfl, _, rfl, ifT (by decide +kernel) ?_⟩
      refine ⟨_, rfl, _, _, rfl, rfl, bL, _, rfl, _, _, rfl, rfl, bR _, 255 * (L : Int) * L, 10000, rfl, by decide, by decide, ?_⟩
      rw [Mx.curved1] at k
      exact k
    | 2, _, k =>
      refine ⟨_, rfl, rfl, _, rfl, ifF (by decide +kernel) ?_⟩
      refine ⟨_, rfl, rfl, _, rfl, ifF (by decide +kernel) ?_⟩
      refine ⟨_, rfl, rfl, _, rfl, ifT (by decide +kernel) ?_⟩
      refine ⟨_, rfl, _, _, rfl, rfl, bL, _, rfl, _, _, rfl, rfl, bR _, _, rfl, _, _, rfl, rfl, .inl ⟨by decide, by decide⟩, _, _, rfl, rfl, _, _, rfl, rfl, .inr ⟨by omega, by omega⟩, 255 * (L : Int) * L * (300 - 2 * L), 1000000, rfl, by decide, by decide, ?_⟩
      rw [Mx.curved2 hL] at k
      exact k
    | 3, _, k =>
      refine ⟨_, rfl, rfl, _, rfl, ifF (by decide +kernel) ?_⟩
      refine ⟨_, rfl, rfl, _, rfl, ifF (by decide +kernel) ?_⟩
      refine ⟨_, rfl, rfl, _, rfl, ifF (by decide +kernel) ?_⟩
      rw [Mx.curved3] at k
      refine ⟨_, rfl, _, _, rfl, rfl, _, rfl, ifB (fun z => ?_) (fun z => ?_)⟩
      · rw [if_neg (by have := of_decide_eq_true z; omega)] at k
        exact k
      · rw [if_pos (by have := of_decide_eq_false z; omega)] at k
        exact k
    | c + 4, hc, _ => exact absurd hc (by omega)
end
end Sl
end
section
set_option Elab.async false
set_option linter.all false
set_option maxRecDepth 100000
namespace Sl
open PySem PySem.Spec PyProof.Rows L2 TL
section
variable {P : Program} {w : World} {K : PySem.W.Frag} {mg : Str → Option Value} {base : Heap} {A : Ad}
def spGiven (A : Ad) : Sp := fun vs H Q _ => ∃ (a : Addr) (d : Sg.Dimmer) (L : Nat), vs = [.ref a, .int L] ∧ DimAt A H a d ∧ d.ok = true ∧ L ≤ 100 ∧ Q (.int (d.gives L : Nat)) H
theorem ok_given {f : Addr} {fd : FuncData} (F : Fun K "given_by" "given_by" s_given_by f fd) (T : Txt K mg A) (D1 : Dn P w K mg base 2 "curve_at" ["curve", "level"] spCurve) : FnOk P w K mg base CX0 3 f fd ["dimmer", "level"] (spGiven A) := by
  refine F.ok sc_given_by (fun vs H Q E h => ?_) (fun cdv B outer s H vs Q E hr h => ?_)
  · obtain ⟨a, d, L, rfl, _⟩ := h
    rfl
  · obtain ⟨a, d, L, rfl, ⟨dx, hd⟩, ok, hL, k⟩ := h
    obtain ⟨p1, p2, p3, p4, p5, p6⟩ := Mx.ok_parts ok
    refine ⟨_, pss_one (ps_ret (pe_op op_fdiv (pe_op op_mul (pe_dn D1 hr (pa_cons (pe_fld (pv 0) rfl) (pa_cons (pv 1) pa_nil))) (pe_fld (pv 0) rfl)) pe_int)), ?_⟩
    refine ⟨_, rfl, a, _, dx, _, _, rfl, hd, T.clD, T.nD3, dfs3 _, _, rfl, d.curve, L, rfl, p3, hL, _, rfl, a, _, dx, _, _, rfl, hd, T.clD, T.nD4, dfs4 _, _, _, rfl, rfl, .inr ⟨by omega, by omega⟩, _, _, rfl, rfl, ⟨by decide, by decide⟩, ?_⟩
    have e : ((d.gives L : Nat) : Int) = (Sg.curved d.curve L : Nat) * (d.limit : Int) / 100 := by
      unfold Sg.Dimmer.gives
      rw [Int.natCast_ediv, Int.natCast_mul]; rfl
    rw [e] at k
    exact k
def lvV : Option Nat → V
  | none => .non
  | some l => .int (l : Nat)
def spLeast (A : Ad) : Sp := fun vs H Q _ => ∃ (a : Addr) (d : Sg.Dimmer) (m : Nat), vs = [.ref a, .int m] ∧ DimAt A H a d ∧ d.ok = true ∧ Q (lvV (d.level m)) H
theorem ok_least {f : Addr} {fd : FuncData} (F : Fun K "least_level" "least_level" s_least_level f fd) (T : Txt K mg A) (D1 : Dn P w K mg base 3 "given_by" ["dimmer", "level"] (spGiven A)) : FnOk P w K mg base CX0 4 f fd ["dimmer", "much"] (spLeast A) := by
  refine F.ok sc_least_level (fun vs H Q E h => ?_) (fun cdv B outer s H vs Q E hr h => ?_)
  · obtain ⟨a, d, m, rfl, _⟩ := h
    rfl
  · obtain ⟨a, d, m, rfl, hd, ok, k⟩ := h
    refine ⟨_, pss_cons (ps_for PassesOwn.never rfl (pi_range1 rfl T.b2 (pa_cons (pe_op op_add (pk T.i14) pe_int) pa_nil)) (pg_name (i := 2) sc_least_level.nd rfl (Or.inl rfl))
        (pss_one (ps_if (pt_cmpR op_ge (pe_dn D1 hr (pa_cons (pv 0) (pa_cons (pv 2) pa_nil))) (pv 1) (nomark _)) (pss_one (ps_ret (pv 2))) pss_nil)))
      (pss_one (ps_ret pe_non)), ?_⟩
    refine ⟨_, _, rfl, rfl, 101, rfl, by decide, by decide, for_range (n := 101) (fun i σ H' => H' = H ∧ (∃ v, σ = [some (.ref a), some (.int m), v]) ∧ ∀ l, l < i → d.gives l < m) ⟨rfl, ⟨none, rfl⟩, fun l h => by omega⟩ ?_ ?_⟩
    · rintro i σ H' hi ⟨rfl, ⟨v, rfl⟩, hlt⟩
      rw [Int.zero_add]
      refine ⟨_, rfl, _, rfl, a, d, i, rfl, hd, ok, by omega, _, rfl, _, _, rfl, rfl, _, rfl, ifB (fun z => ?_) (fun z => ?_)⟩
      · have z := of_decide_eq_true z
        refine ⟨_, rfl, ?_⟩
        have e : d.level m = some i := by
          unfold Sg.Dimmer.level
          rw [List.find?_range_eq_some]
          refine ⟨decide_eq_true (by omega), List.mem_range.mpr (by show i < 101; omega), fun j hj => ?_⟩
          have := hlt j hj
          rw [Bool.not_eq_true']
          exact decide_eq_false (by omega)
        rw [e] at k
        exact k
      · have z := of_decide_eq_false z
        refine ⟨rfl, ⟨_, rfl⟩, fun l hl => ?_⟩
        by_cases q : l = i
        · subst q; omega
        · exact hlt l (by omega)
    · rintro σ H' ⟨rfl, ⟨v, rfl⟩, hlt⟩
      have e : d.level m = none := by
        unfold Sg.Dimmer.level
        rw [List.find?_range_eq_none]
        intro i hi
        have := hlt i hi
        rw [Bool.not_eq_true']
        exact decide_eq_false (by omega)
      rw [e] at k
      exact k
/-! ### reader.py -/
def rfs (a : Addr) (p : Nat) : List (Str × V) := [("calls", .ref a), ("place", .int (p : Nat))]
theorem rfs1 (a : Addr) (p : Nat) : (rfs a p).lookup ("calls" : Str) = some (.ref a) := by unfold rfs; rw [lk_here]
theorem rfs2 (a : Addr) (p : Nat) : (rfs a p).lookup ("place" : Str) = some (.int (p : Nat)) := by unfold rfs; rw [lk_skip (by decide), lk_here]
theorem rfs_no {a : Addr} {p : Nat} {m : Str} (h1 : ¬ m = "calls") (h2 : ¬ m = "place") : (rfs a p).lookup m = none := by unfold rfs; rw [lk_skip h1, lk_skip h2]; rfl
theorem rfs_put (a : Addr) (p q : Nat) : putF "place" (.int (q : Nat)) (rfs a p) = rfs a q := by unfold rfs; rw [pf_skip (by decide), pf_here]
def spRInit (A : Ad) : Sp := fun vs H Q _ => ∃ (p a dx : Addr), vs = [.ref p, .ref a] ∧ H p = some (.ins A.cR dx []) ∧ Q .non (upd H p (.ins A.cR dx (rfs a 0)))
theorem ok_rinit {f : Addr} {fd : FuncData} (F : Fun K "__init__" "CallReader.__init__" s_CallReader_init f fd) (T : Txt K mg A) : FnOk P w K mg base CX0 1 f fd ["self", "calls"] (spRInit A) := by
  refine F.ok sc_CallReader_init (fun vs H Q E h => ?_) (fun cdv B outer s H vs Q E hr h => ?_)
  · obtain ⟨p, a, dx, rfl, _⟩ := h
    rfl
  · obtain ⟨p, a, dx, rfl, hp, k⟩ := h
    refine ⟨_, pss_cons (ps_fld (pv 0) (pv 1) rfl) (pss_one (ps_fld (pv 0) pe_int rfl)), ?_⟩
    refine ⟨_, rfl, _, rfl, p, _, dx, [], rfl, hp, T.clR, T.nR1, (by show 0 < 1000; decide), _, rfl, p, _, dx, _, rfl, upd_same, T.clR, T.nR2, (by show 1 < 1000; decide), ?_⟩
    have e : putF "place" (V.int 0) (putF "calls" (V.ref a) []) = rfs a 0 := by rw [pf_nil, pf_skip (by decide), pf_nil]; rfl
    show Q .non (upd (upd H p _) p (.ins _ dx (putF "place" (V.int 0) (putF "calls" (V.ref a) []))))
    rw [e, upd_upd]
    exact k
def spAtEnd (K : PySem.W.Frag) (A : Ad) : Sp := fun vs H Q _ => ∃ (r a dx : Addr) (p : Nat) (xs : List V), vs = [.ref r] ∧ H r = some (.ins A.cR dx (rfs a p)) ∧ SqL K H a xs ∧ Q (.bl (decide (xs.length ≤ p))) H
theorem ok_atend {f : Addr} {fd : FuncData} (F : Fun K "at_end" "CallReader.at_end" s_CallReader_at_end f fd) (T : Txt K mg A) : FnOk P w K mg base CX0 1 f fd ["self"] (spAtEnd K A) := by
  refine F.ok sc_CallReader_at_end (fun vs H Q E h => ?_) (fun cdv B outer s H vs Q E hr h => ?_)
  · obtain ⟨r, a, dx, p, xs, rfl, _⟩ := h
    rfl
  · obtain ⟨r, a, dx, p, xs, rfl, hr1, hs, k⟩ := h
    refine ⟨_, pss_one (ps_ret (pe_cmpR op_ge (pe_fld (pv 0) rfl) (pe_len T.b1 (pe_fld (pv 0) rfl)) (nomark _))), ?_⟩
    refine ⟨_, rfl, r, _, dx, _, _, rfl, hr1, T.clR, T.nR2, rfs2 _ _, _, rfl, r, _, dx, _, _, rfl, hr1, T.clR, T.nR1, rfs1 _ _, a, xs, rfl, .inl hs, _, _, rfl, rfl, ?_⟩
    have e : decide ((xs.length : Int) ≤ (p : Int)) = decide (xs.length ≤ p) := by
      by_cases h : xs.length ≤ p
      · rw [decide_eq_true h, decide_eq_true (by omega)]
      · rw [decide_eq_false h, decide_eq_false (by omega)]
    rw [← e] at k
    exact k
def spNum (K : PySem.W.Frag) (A : Ad) : Sp := fun vs H Q _ => ∃ (r a dx : Addr) (p : Nat) (xs : List V) (v : V), vs = [.ref r] ∧ H r = some (.ins A.cR dx (rfs a p)) ∧ SqL K H a xs ∧ xs[p]? = some v ∧ Q v (upd H r (.ins A.cR dx (rfs a (p + 1))))
theorem ok_num {f : Addr} {fd : FuncData} (F : Fun K "take_number" "CallReader.take_number" s_CallReader_take_number f fd) (T : Txt K mg A) : FnOk P w K mg base CX0 1 f fd ["self"] (spNum K A) := by
  refine F.ok sc_CallReader_take_number (fun vs H Q E h => ?_) (fun cdv B outer s H vs Q E hr h => ?_)
  · obtain ⟨r, a, dx, p, xs, v, rfl, _⟩ := h
    rfl
  · obtain ⟨r, a, dx, p, xs, v, rfl, h1, hs, hv, k⟩ := h
    refine ⟨_, pss_cons (ps_set (i := 1) sc_CallReader_take_number.nd rfl (Or.inl rfl) (pe_ix ix_list (pe_fld (pv 0) rfl) (pe_fld (pv 0) rfl) (fun _ _ => rfl)))
      (pss_cons (ps_fld (pv 0) (pe_op op_add (pe_fld (pv 0) rfl) pe_int) rfl) (pss_one (ps_ret (pv 1)))), ?_⟩
    refine ⟨_, rfl, r, _, dx, _, _, rfl, h1, T.clR, T.nR1, rfs1 _ _, _, rfl, r, _, dx, _, _, rfl, h1, T.clR, T.nR2, rfs2 _ _, a, xs, p, v, rfl, rfl, hs, atI_nat hv, ?_⟩
    refine ⟨_, rfl, r, _, dx, _, _, rfl, h1, T.clR, T.nR2, rfs2 _ _, _, _, rfl, rfl, _, rfl, r, _, dx, _, rfl, h1, T.clR, T.nR2, (by show 2 < 1000; decide), ?_⟩
    refine ⟨_, rfl, ?_⟩
    have e : putF "place" (V.int ((p : Int) + 1)) (rfs a p) = rfs a (p + 1) := rfs_put a p (p + 1)
    rw [e]
    exact k
/-- a row: how many numbers it has stands ahead of it -/
def spRow (K : PySem.W.Frag) (A : Ad) : Sp := fun vs H Q _ => ∃ (r a dx : Addr) (p n : Nat) (xs : List V), vs = [.ref r] ∧ H r = some (.ins A.cR dx (rfs a p)) ∧ SqL K H a xs ∧ xs[p]? = some (.int (n : Nat)) ∧ p + 1 + n ≤ xs.length ∧
  ∀ (H' : Hp) (q : Addr), H q = none → H' q = some (.lst ((xs.drop (p + 1)).take n)) → H' r = some (.ins A.cR dx (rfs a (p + 1 + n))) → (∀ b o, H b = some o → b ≠ r → H' b = some o) → Q (.ref q) H'
theorem _root_.L2.SqL.keep {K : PySem.W.Frag} {H H' : Hp} {a : Addr} {xs : List V} (h : SqL K H a xs) (k : ∀ o, H a = some o → H' a = some o) : SqL K H' a xs := by
  rcases h with h | h
  · rcases h with h | ⟨o, h⟩
    · exact .inl (.inl (k _ h))
    · exact .inl (.inr ⟨o, k _ h⟩)
  · exact .inr h
theorem _root_.L2.SqL.noins {K : PySem.W.Frag} {H : Hp} {a r C dx : Addr} {fs : List (Str × V)} {xs : List V} (h : SqL K H a xs) (hr : H r = some (.ins C dx fs)) {o : HO} : SqL K (upd H r o) a xs := by
  rcases h with h | h
  · refine .inl ?_
    rcases h with h | ⟨u, h⟩
    · exact .inl (by rw [upd_ne (ne_of h hr (by intro z; cases z))]; exact h)
    · exact .inr ⟨u, by rw [upd_ne (ne_of h hr (by intro z; cases z))]; exact h⟩
  · exact .inr h
theorem cut_row {xs : List V} {p n : Nat} (h : p + n ≤ xs.length) : cutV xs (some ((p : Nat) : Int)) (some ((p + n : Nat) : Int)) = (xs.drop p).take n := by
  unfold cutV
  rw [HT.sIx_nat, HT.sIx_nat, Nat.min_eq_left (show p ≤ xs.length by omega), Nat.min_eq_left h, Nat.add_sub_cancel_left]
theorem ok_row {f : Addr} {fd : FuncData} (F : Fun K "take_row" "CallReader.take_row" s_CallReader_take_row f fd) (T : Txt K mg A) (D1 : Md P w K mg base 1 A.cR "take_number" ["self"] (spNum K A)) : FnOk P w K mg base CX0 2 f fd ["self"] (spRow K A) := by
  refine F.ok sc_CallReader_take_row (fun vs H Q E h => ?_) (fun cdv B outer s H vs Q E hr h => ?_)
  · obtain ⟨r, a, dx, p, n, xs, rfl, _⟩ := h
    rfl
  · obtain ⟨r, a, dx, p, n, xs, rfl, h1, hs, hv, hn, k⟩ := h
    have nd := sc_CallReader_take_row.nd
    refine ⟨_, pss_cons (ps_set (i := 1) nd rfl (Or.inl rfl) (pe_md0 D1 T.clR hr (pv 0)))
      (pss_cons (ps_set (i := 2) nd rfl (Or.inl rfl) (pe_slice sl_list (pe_fld (pv 0) rfl) (po_some (pe_fld (pv 0) rfl)) (po_some (pe_op op_add (pe_fld (pv 0) rfl) (pv 1)))))
      (pss_cons (ps_fld (pv 0) (pe_op op_add (pe_fld (pv 0) rfl) (pv 1)) rfl) (pss_one (ps_ret (pv 2))))), ?_⟩
    refine ⟨_, rfl, r, dx, _, rfl, h1, rfs_no (by decide) (by decide), r, a, dx, p, xs, _, rfl, h1, hs, hv, ?_⟩
    have hs1 : SqL K (upd H r (.ins A.cR dx (rfs a (p + 1)))) a xs := hs.noins h1
    refine ⟨_, rfl, r, _, dx, _, _, rfl, upd_same, T.clR, T.nR1, rfs1 _ _, _, rfl, r, _, dx, _, _, rfl, upd_same, T.clR, T.nR2, rfs2 _ _, _, rfl, _, rfl, r, _, dx, _, _, rfl, upd_same, T.clR, T.nR2, rfs2 _ _, _, rfl, _, _, rfl, rfl, _, rfl,
      a, xs, rfl, hs1, fun q hq => ?_⟩
    have nq : q ≠ r := fun z => by rw [z, upd_same] at hq; cases hq
    have hq0 : H q = none := by rw [upd_ne nq] at hq; exact hq
    refine ⟨_, rfl, r, _, dx, _, _, rfl, at_new upd_same hq, T.clR, T.nR2, rfs2 _ _, _, rfl, _, _, rfl, rfl, _, rfl, r, _, dx, _, rfl, at_new upd_same hq, T.clR, T.nR2, (by show 2 < 1000; decide), ?_⟩
    refine ⟨_, rfl, ?_⟩
    refine k _ q hq0 ?_ ?_ fun b o e hb => ?_
    · rw [upd_ne nq, upd_same]
      exact congrArg (fun z => some (HO.lst z)) (cut_row hn)
    · rw [upd_same]
      exact congrArg (fun z => some (HO.ins _ dx z)) (rfs_put a (p + 1) (p + 1 + n))
    · rw [upd_ne hb, upd_ne (ne_of_none e hq0), upd_ne hb]; exact e
end
end Sl
end
section
set_option Elab.async false
set_option linter.all false
set_option maxRecDepth 100000
namespace Sl
open PySem PySem.Spec PyProof.Rows L2 TL
section
variable {P : Program} {w : World} {K : PySem.W.Frag} {mg : Str → Option Value} {base : Heap} {A : Ad}
def sv (x : Str) : List V := (tl x).map fun c => V.int ((c : Nat) : Int)
def spBytes : Sp := fun vs H Q _ => ∃ x : Str, vs = [.str x] ∧ x.length ≤ 100000 ∧ ∀ q, H q = none → Q (.ref q) (upd H q (.lst (sv x)))
theorem ok_bytes {f : Addr} {fd : FuncData} (F : Fun K "bytes_of" "bytes_of" s_bytes_of f fd) (T : Txt K mg A) : FnOk P w K mg base CX0 1 f fd ["words"] spBytes := by
  refine F.ok sc_bytes_of (fun vs H Q E h => ?_) (fun cdv B outer s H vs Q E hr h => ?_)
  · obtain ⟨x, rfl, _⟩ := h
    rfl
  · obtain ⟨x, rfl, hx, k⟩ := h
    have nd := sc_bytes_of.nd
    refine ⟨_, pss_one (ps_ret (pe_lc (own := [("sign", 1)]) rfl nd (pi_str (pv 0)) (blkOk_by (by show blkC ["words", "sign"] (defScope s_bytes_of) _ [("sign", 1)] = true; decide +kernel)) (fun s H C cl fp => pg_name (i := 1) nd rfl (Or.inl rfl)) (fun _ _ _ _ _ => pts_nil)
      (fun s H C cl fp => pe_callB call_ord rfl T.b4 PyProof.Rows.boot_ord (pa_cons (pv 1) pa_nil)))), ?_⟩
    refine ⟨_, rfl, x, rfl, fun D hD => lc_str (fun i H' => H' = upd H D (.lst (((tl x).take i).map fun c => V.int ((c : Nat) : Int)))) rfl ?_ ?_⟩
    · rintro i c H' hc rfl
      refine ⟨rfl, tyes (iteT ⟨_, rfl, ⟨#[c]⟩, rfl, rfl, _, upd_same, ?_, ?_⟩)⟩
      · rw [List.length_map, List.length_take, szl]
        have := (List.getElem?_eq_some_iff.mp hc).1
        rw [len_tl] at hx
        omega
      · rw [upd_upd, take_snoc hc, List.map_append]
        rfl
    · rintro H' rfl
      rw [List.take_length]
      exact k D hD
/-- all([NOUGHT <= sign <= NINE for sign in field]), read -/
theorem digs {K' : PySem.W.Frag} {H : Hp} {a : Addr} {b : Sg.Bytes} {Q : VK} {v1 : Option V} (hs : SqL K' H a (bv b)) (hl : b.length ≤ 100000) (k : ∀ H', Same H H' → Q (.bl (b.all Sg.isDigit)) H') :
    tCB (rAll K') (tCons (tLc (iList K' (tVar 0)) (gName 1) tYes (tChain (rI0 fun i j => .bl (decide (i ≤ j))) (rI0 fun i j => .bl (decide (i ≤ j))) (tC (.int 48)) (tVar 1) (tC (.int 57))) [1]) tNil) [some (.ref a), v1] H Q := by
  refine ⟨_, rfl, a, rfl, ⟨_, hs⟩, fun D hD => lc_list (K := K') (a := a) (xs := bv b) (fun i H' => H' = upd H D (.lst (((b.take i).map Sg.isDigit).map V.bl))) rfl (fun i H' _ e => by subst e; exact (Same.new hD).seq hs) ?_ ?_⟩
  · rintro i y H' hy rfl
    obtain ⟨d, hd, rfl⟩ := bv_of hy
    have fin : ∀ bb : Bool, bb = Sg.isDigit d → ∃ acc, upd H D (.lst (((b.take i).map Sg.isDigit).map V.bl)) D = some (.lst acc) ∧ acc.length < sizeLine ∧ upd (upd H D (.lst (((b.take i).map Sg.isDigit).map V.bl))) D (.lst (acc ++ [V.bl bb])) = upd H D (.lst (((b.take (i + 1)).map Sg.isDigit).map V.bl)) := by
      rintro bb rfl
      refine ⟨_, upd_same, ?_, ?_⟩
      · rw [List.length_map, List.length_map, List.length_take, szl]; omega
      · rw [upd_upd, take_snoc hd, List.map_append, List.map_append]; rfl
    refine ⟨rfl, tyes (iteT ⟨_, rfl, _, _, rfl, rfl, _, rfl, ifB (fun q => ⟨_, _, rfl, rfl, fin _ ?_⟩) (fun q => fin _ ?_)⟩)⟩
    · have q := of_decide_eq_true q
      by_cases h : d.toNat ≤ 57
      · rw [decide_eq_true (by omega), Mx.isDigit_iff.mpr ⟨by omega, h⟩]
      · rw [decide_eq_false (by omega)]
        cases hh : Sg.isDigit d with
        | false => rfl
        | true => exact absurd (Mx.isDigit_iff.mp hh).2 h
    · have q := of_decide_eq_false q
      cases hh : Sg.isDigit d with
      | false => rfl
      | true => exact absurd (Mx.isDigit_iff.mp hh).1 (by omega)
  · rintro H' rfl
    rw [bv_len, List.take_length]
    refine ⟨D, b.map Sg.isDigit, rfl, SqL.of upd_same, ?_⟩
    rw [List.all_map]
    exact k _ (Same.new hD)
def spDec (K : PySem.W.Frag) : Sp := fun vs H Q _ => ∃ (a : Addr) (b : Sg.Bytes), vs = [.ref a] ∧ SqL K H a (bv b) ∧ b.length ≤ 100000 ∧ ∀ H', Same H H' → Q (.bl (Mx.decOk b)) H'
theorem ok_dec {f : Addr} {fd : FuncData} (F : Fun K "is_decimal" "is_decimal" s_is_decimal f fd) (T : Txt K mg A) : FnOk P w K mg base CX0 1 f fd ["field"] (spDec K) := by
  refine F.ok sc_is_decimal (fun vs H Q E h => ?_) (fun cdv B outer s H vs Q E hr h => ?_)
  · obtain ⟨a, b, rfl, _⟩ := h
    rfl
  · obtain ⟨a, b, rfl, hs, hl, k⟩ := h
    have nd := sc_is_decimal.nd
    refine ⟨_, pss_cons (ps_if (PW.pt (pw_or (pt_cmpR op_eq (pe_len T.b1 (pv 0)) pe_int (nomark _)) (pw_or1 (pt_cmpR op_gt (pe_len T.b1 (pv 0)) (pk T.i11) (nomark _))))) (pss_one (ps_ret pe_bl)) pss_nil)
      (pss_cons (ps_if (PW.pt (pw_and (pt_cmpR op_eq (pe_ix ix_list (pv 0) pe_int (fun _ _ => rfl)) (pk T.i8) (nomark _)) (pw_and1 (pt_cmpR op_gt (pe_len T.b1 (pv 0)) pe_int (nomark _))))) (pss_one (ps_ret pe_bl)) pss_nil)
      (pss_one (ps_ret (pe_callB (cr_all rfl) rfl T.b6 PyProof.Rows.boot_all (pa_cons (pe_lc (own := [("sign", 1)]) rfl nd (pi_list (pv 0)) (blkOk_by (by show blkC ["field", "sign"] (defScope s_is_decimal) _ [("sign", 1)] = true; decide +kernel)) (fun s H C cl fp => pg_name (i := 1) nd rfl (Or.inl rfl)) (fun _ _ _ _ _ => pts_nil)
        (fun s H C cl fp => pe_chain op_le op_le (pk T.i8) (pv 1) (pk T.i9))) pa_nil))))), ?_⟩
    have len : ((bv b).length : Int) = (b.length : Int) := by rw [bv_len]
    have e1 : ∀ i j : Int, decide (V.int i = V.int j) = decide (i = j) := fun i j => by
      by_cases h : i = j
      · rw [decide_eq_true h, decide_eq_true (by rw [h])]
      · rw [decide_eq_false h, decide_eq_false (fun z => h (V.int.inj z))]
    refine ⟨_, rfl, a, _, rfl, .inl hs, rfl, _, rfl, ifB (fun z => iteT ?_) (fun z => ⟨_, rfl, a, _, rfl, .inl hs, _, _, rfl, rfl, _, rfl, ifB (fun z2 => ?_) (fun z2 => ?_)⟩)⟩
    · -- empty
      rw [e1, len] at z
      have z := of_decide_eq_true z
      have : Mx.decOk b = false := by
        unfold Mx.decOk
        rw [decide_eq_false (fun q => q.1 (List.length_eq_zero_iff.mp (by omega)))]; rfl
      have k := k H (Same.refl H)
      rw [this] at k
      exact k
    · rw [len] at z2
      have z2 := of_decide_eq_true z2
      have : Mx.decOk b = false := by
        unfold Mx.decOk
        rw [decide_eq_false (fun q => by omega)]; rfl
      have k := k H (Same.refl H)
      rw [this] at k
      exact k
    · rw [e1, len] at z
      rw [len] at z2
      have z := of_decide_eq_false z
      have z2 := of_decide_eq_false z2
      obtain ⟨c, r, rfl⟩ : ∃ c r, b = c :: r := by
        cases b with
        | nil => exact absurd rfl z
        | cons c r => exact ⟨c, r, rfl⟩
      have t1 : decide (c :: r ≠ [] ∧ (c :: r).length ≤ 4) = true := decide_eq_true ⟨by simp, by omega⟩
      have hd : decide ((c :: r).head? = some 48) = decide ((c.toNat : Int) = 48) := by
        by_cases h : c = 48
        · subst h; rfl
        · rw [decide_eq_false (by simpa using h), decide_eq_false (fun q => h (by
            have : c.toNat = (48 : UInt8).toNat := by show c.toNat = 48; omega
            exact UInt8.toNat_inj.mp this))]
      refine ⟨_, rfl, a, _, 0, _, rfl, rfl, hs, atI_nat (j := 0) rfl, rfl, _, rfl, ifB (fun q => ⟨_, rfl, a, _, rfl, .inl hs, _, _, rfl, rfl, _, rfl, ifB (fun q2 => ?_) (fun q2 => ?_)⟩) (fun q => iteF ?_)⟩
      · rw [len] at q2
        have q2 := of_decide_eq_true q2
        rw [e1, ← hd] at q
        have : Mx.decOk (c :: r) = false := by
          unfold Mx.decOk
          rw [t1, q, decide_eq_true (by omega)]; rfl
        have k := k H (Same.refl H)
        rw [this] at k
        exact k
      · rw [len] at q2
        have q2 := of_decide_eq_false q2
        have hgo : Mx.decOk (c :: r) = ((c :: r).all Sg.isDigit) := by
          unfold Mx.decOk
          rw [t1, decide_eq_false (show ¬ 1 < (c :: r).length by omega), Bool.and_false]; rfl
        rw [hgo] at k
        exact digs hs hl k
      · rw [e1, ← hd] at q
        have hgo : Mx.decOk (c :: r) = ((c :: r).all Sg.isDigit) := by
          unfold Mx.decOk
          rw [t1, q]; rfl
        rw [hgo] at k
        exact digs hs hl k
end
end Sl
end
section
set_option Elab.async false
set_option linter.all false
set_option maxRecDepth 100000
namespace Sl
open PySem PySem.Spec PyProof.Rows L2 TL
/-! ### rows of bytes, each a list -/
structure RowsAt (H : Hp) (as : List Addr) (l : List Sg.Bytes) : Prop where
  len : as.length = l.length
  at_ : ∀ (i : Nat) (a : Addr) (b : Sg.Bytes), as[i]? = some a → l[i]? = some b → H a = some (.lst (bv b))
theorem RowsAt.same {H H' : Hp} {as : List Addr} {l : List Sg.Bytes} (h : RowsAt H as l) (s : Same H H') : RowsAt H' as l := ⟨h.len, fun i a b e1 e2 => s _ _ (h.at_ i a b e1 e2)⟩
theorem RowsAt.nil {H : Hp} : RowsAt H [] [] := ⟨rfl, fun i a b e _ => by simp at e⟩
theorem RowsAt.snoc {H : Hp} {as : List Addr} {l : List Sg.Bytes} {a : Addr} {b : Sg.Bytes} (h : RowsAt H as l) (hd : H a = some (.lst (bv b))) : RowsAt H (as ++ [a]) (l ++ [b]) := by
  refine ⟨by simp [h.len], fun i x e h1 h2 => ?_⟩
  by_cases hi : i < as.length
  · rw [List.getElem?_append_left hi] at h1
    rw [List.getElem?_append_left (by rw [← h.len]; exact hi)] at h2
    exact h.at_ i x e h1 h2
  · rw [List.getElem?_append_right (by omega)] at h1
    rw [List.getElem?_append_right (by rw [← h.len]; omega)] at h2
    rw [h.len] at h1
    cases hz : i - l.length with
    | zero =>
      rw [hz] at h1 h2
      cases h1; cases h2
      exact hd
    | succ n =>
      rw [hz] at h1
      simp at h1
theorem RowsAt.get {H : Hp} {as : List Addr} {l : List Sg.Bytes} (h : RowsAt H as l) {i : Nat} {b : Sg.Bytes} (e : l[i]? = some b) : ∃ a, as[i]? = some a ∧ H a = some (.lst (bv b)) := by
  have l2 : i < l.length := (List.getElem?_eq_some_iff.mp e).1
  have l1 : i < as.length := by rw [h.len]; exact l2
  exact ⟨as[i], List.getElem?_eq_getElem l1, h.at_ i _ b (List.getElem?_eq_getElem l1) e⟩
theorem RowsAt.some {H : Hp} {as : List Addr} {l : List Sg.Bytes} (h : RowsAt H as l) {a : Addr} (m : a ∈ as) : ∃ b, H a = some (.lst (bv b)) := by
  obtain ⟨i, hi⟩ := List.mem_iff_getElem?.mp m
  have l1 : i < as.length := (List.getElem?_eq_some_iff.mp hi).1
  exact ⟨_, h.at_ i a _ hi (List.getElem?_eq_getElem (by rw [← h.len]; exact l1))⟩
/-- another list is written -/
theorem RowsAt.put {H : Hp} {as : List Addr} {l : List Sg.Bytes} {t : Addr} {o : HO} (h : RowsAt H as l) (ht : t ∉ as) : RowsAt (upd H t o) as l :=
  ⟨h.len, fun i a b e1 e2 => by rw [upd_ne (fun z => ht (by rw [← z]; exact List.mem_of_getElem? e1))]; exact h.at_ i a b e1 e2⟩
theorem bv_app (s t : Sg.Bytes) : bv (s ++ t) = bv s ++ bv t := List.map_append
theorem bv_take (t : Sg.Bytes) (i : Nat) : (bv t).take i = bv (t.take i) := by unfold bv; rw [List.map_take]
theorem bv_drop (t : Sg.Bytes) (i : Nat) : (bv t).drop i = bv (t.drop i) := by unfold bv; rw [List.map_drop]
theorem byte_is {c : UInt8} (n : Nat) {z : Int} (hz : z = (n : Int)) (hn : n < 256) : (decide (V.int ((c.toNat : Nat) : Int) = V.int z)) = decide (c = UInt8.ofNat n) := by
  subst hz
  by_cases h : c = UInt8.ofNat n
  · subst h
    rw [decide_eq_true rfl, decide_eq_true]
    rw [UInt8.toNat_ofNat', Nat.mod_eq_of_lt hn]
  · rw [decide_eq_false h, decide_eq_false (fun z => h ?_)]
    have z := V.int.inj z
    have : c.toNat = n := by omega
    rw [← this, UInt8.ofNat_toNat]
theorem cut_mid {t : Sg.Bytes} {i j : Nat} (h : i ≤ j) (hj : j ≤ t.length) : cutV (bv t) (some ((i : Nat) : Int)) (some ((j : Nat) : Int)) = bv ((t.take j).drop i) := by
  unfold cutV
  rw [HT.sIx_nat, HT.sIx_nat, bv_len, Nat.min_eq_left (show i ≤ t.length by omega), Nat.min_eq_left hj, bv_drop, bv_take, List.drop_take]
theorem cut_tail {t : Sg.Bytes} {i : Nat} (h : i ≤ t.length) : cutV (bv t) (some ((i : Nat) : Int)) none = bv (t.drop i) := by
  unfold cutV
  rw [HT.sIx_nat, HT.sIx_none, bv_len, Nat.min_eq_left h, bv_drop]
  rw [List.take_of_length_le (by rw [bv_len, List.length_drop]; exact Nat.le_refl _)]
section
variable {P : Program} {w : World} {K : PySem.W.Frag} {mg : Str → Option Value} {base : Heap} {A : Ad}
/-- the lines of a text, with their byte 10 -/
def lined (ws : List Sg.Bytes) (w : Sg.Bytes) : List Sg.Bytes := ws.map (fun v => v ++ [10]) ++ (if w = [] then [] else [w])
def spLines (K : PySem.W.Frag) : Sp := fun vs H Q _ => ∃ (a : Addr) (t : Sg.Bytes) (ws : List Sg.Bytes) (w : Sg.Bytes), vs = [.ref a] ∧ SqL K H a (bv t) ∧ t.length ≤ 100000 ∧ Sg.split 10 t = ws ++ [w] ∧
  ∀ (H' : Hp) (q : Addr) (as : List Addr), Same H H' → H q = none → H' q = some (.lst (as.map V.ref)) → RowsAt H' as (lined ws w) → Q (.ref q) H'
theorem ok_lines {f : Addr} {fd : FuncData} (F : Fun K "lines_of" "lines_of" s_lines_of f fd) (T : Txt K mg A) : FnOk P w K mg base CX0 1 f fd ["text"] (spLines K) := by
  refine F.ok sc_lines_of (fun vs H Q E h => ?_) (fun cdv B outer s H vs Q E hr h => ?_)
  · obtain ⟨a, t, ws, w, rfl, _⟩ := h
    rfl
  · obtain ⟨a, t, ws0, w0, rfl, hs, hl, hsp, k⟩ := h
    have nd := sc_lines_of.nd
    refine ⟨_, pss_cons (ps_set (i := 1) nd rfl (Or.inl rfl) (pe_lst pa_nil))
      (pss_cons (ps_set (i := 2) nd rfl (Or.inl rfl) pe_int)
      (pss_cons (ps_for PassesOwn.never rfl (pi_enum rfl T.b3 (pa_cons (pv 0) pa_nil)) (pg_tup rfl (pgs_cons (pg_name (i := 3) nd rfl (Or.inl rfl)) (pgs_cons (pg_name (i := 4) nd rfl (Or.inl rfl)) pgs_nil)))
        (pss_one (ps_if (pt_cmpR op_eq (pv 4) (pk T.i6) (nomark _))
          (pss_cons (ps_expr (pe_bm PySem.F.plainAttrs_list PySem.F.slot_list_append PySem.F.type_list_append mt_append (pv 1) (pa_cons (pe_slice sl_list (pv 0) (po_some (pv 2)) (po_some (pe_op op_add (pv 3) pe_int))) pa_nil)))
            (pss_one (ps_set (i := 2) nd rfl (Or.inl rfl) (pe_op op_add (pv 3) pe_int)))) pss_nil)))
      (pss_cons (ps_if (pt_cmpR op_lt (pv 2) (pe_len T.b1 (pv 0)) (nomark _))
          (pss_one (ps_expr (pe_bm PySem.F.plainAttrs_list PySem.F.slot_list_append PySem.F.type_list_append mt_append (pv 1) (pa_cons (pe_slice sl_list (pv 0) (po_some (pv 2)) po_none) pa_nil)))) pss_nil)
      (pss_one (ps_ret (pv 1)))))), ?_⟩
    refine ⟨Nat.zero_le _, fun q hq => ?_⟩
    have sq : Same H (upd H q (.lst [])) := Same.new hq
    refine ⟨_, rfl, a, _, rfl, sq.seq hs, for_enum (K := K) (a := a) (xs := bv t) (fun i σ H' => ∃ (ws : List Sg.Bytes) (w : Sg.Bytes) (as : List Addr) (v3 v4 : Option V) (st : Nat), σ = [some (.ref a), some (.ref q), some (.int (st : Nat)), v3, v4] ∧
        Sg.split 10 (t.take i) = ws ++ [w] ∧ st ≤ i ∧ w = (t.take i).drop st ∧ Same H H' ∧ H' q = some (.lst (as.map V.ref)) ∧ q ∉ as ∧ RowsAt H' as (ws.map fun v => v ++ [10]) ∧ as.length ≤ i)
      ⟨[], [], [], none, none, 0, rfl, rfl, Nat.le_refl _, rfl, sq, upd_same, by simp, RowsAt.nil, Nat.le_refl _⟩ (fun i σ H' _ ⟨_, _, _, _, _, _, _, _, _, _, s5, _⟩ => s5.seq hs) ?_ ?_⟩
    · rintro i y σ H' tt hy ⟨ws, w, as, v3, v4, st, rfl, h1, h2, h3, sm, hq', nq, ra, la⟩ htt
      obtain ⟨c, hc, rfl⟩ := bv_of hy
      have hi : i < t.length := (List.getElem?_eq_some_iff.mp hc).1
      have sm1 : Same H (upd H' tt (.tup [.int ((i : Nat) : Int), .int ((c.toNat : Nat) : Int)])) := sm.add htt
      have hq1 := at_new (o := .tup [.int ((i : Nat) : Int), .int ((c.toNat : Nat) : Int)]) hq' htt
      have ra1 := ra.same (Same.new (o := .tup [.int ((i : Nat) : Int), .int ((c.toNat : Nat) : Int)]) htt)
      have tk : t.take (i + 1) = t.take i ++ [c] := take_snoc hc
      have sn := Mx.split_snoc 10 c h1
      rw [← tk] at sn
      refine ⟨tt, _, rfl, SqT.of upd_same, rfl, _, _, rfl, _, _, rfl, rfl, ?_⟩
      refine ⟨_, rfl, rfl, _, rfl, ?_⟩
      rw [byte_is (z := 10) 10 rfl (by decide)]
      refine ifB (fun z => ?_) (fun z => ?_)
      · have z : c = 10 := of_decide_eq_true z
        rw [if_pos z] at sn
        refine ⟨_, rfl, .inl ⟨rfl, _, SqL.of hq1⟩, _, rfl, _, rfl, _, rfl, _, rfl, _, _, rfl, rfl, _, rfl, a, _, rfl, sm1.seq hs, fun p hp => ?_⟩
        have e : cutV (bv t) (some ((st : Nat) : Int)) (some ((i : Int) + 1)) = bv (w ++ [10]) := by
          have : ((i : Int) + 1) = ((i + 1 : Nat) : Int) := by omega
          rw [this, cut_mid (by omega) (by omega), tk, List.drop_append_of_le_length (by rw [List.length_take]; omega), ← h3, z]
        rw [e]
        have hq2 := at_new (o := .lst (bv (w ++ [10]))) hq1 hp
        have np : p ≠ q := fun z => by rw [z, hq1] at hp; cases hp
        refine ⟨q, _, _, rfl, rfl, hq2, (by rw [List.length_map, szl]; omega), ?_⟩
        refine ⟨_, rfl, _, _, rfl, rfl, ws ++ [w], [], as ++ [p], _, _, i + 1, rfl, ?_, Nat.le_refl _, ?_, (sm1.add hp).put hq, ?_, ?_, ?_, by simp; omega⟩
        · rw [sn]; simp
        · rw [List.drop_eq_nil_of_le (by rw [List.length_take]; omega)]
        · rw [upd_same, List.map_append]; rfl
        · simp [nq]; exact fun z => np z.symm
        · rw [List.map_append]
          refine RowsAt.put ?_ (by simp [nq]; exact fun z => np z.symm)
          exact RowsAt.snoc (ra1.same (Same.new hp)) upd_same
      · have z : ¬ c = 10 := of_decide_eq_false z
        rw [if_neg z] at sn
        refine ⟨ws, w ++ [c], as, _, _, st, rfl, sn, by omega, ?_, sm1, hq1, nq, ra1, by omega⟩
        rw [tk, List.drop_append_of_le_length (by rw [List.length_take]; omega), ← h3]
    · rintro σ H' ⟨ws, w, as, v3, v4, st, rfl, h1, h2, h3, sm, hq', nq, ra, la⟩
      rw [bv_len, List.take_length] at h1 h3
      rw [bv_len] at h2 la
      rw [hsp] at h1
      obtain ⟨e1, e2⟩ := List.append_inj' h1 rfl
      have e2 : w0 = w := by simpa using e2
      subst e1 e2
      refine ⟨_, rfl, _, rfl, a, _, rfl, .inl (sm.seq hs), _, _, rfl, rfl, _, rfl, ?_⟩
      rw [bv_len]
      have wl : w0.length = t.length - st := by rw [h3, List.length_drop]
      refine ifB (fun z => ?_) (fun z => ?_)
      · have z := of_decide_eq_true z
        have wn : w0 ≠ [] := fun q => by rw [q] at wl; simp at wl; omega
        refine ⟨_, rfl, .inl ⟨rfl, _, SqL.of hq'⟩, _, rfl, _, rfl, _, rfl, a, _, rfl, sm.seq hs, fun p hp => ?_⟩
        rw [cut_tail h2, ← h3]
        have hq2 := at_new (o := .lst (bv w0)) hq' hp
        have np : p ≠ q := fun z => by rw [z, hq'] at hp; cases hp
        refine ⟨q, _, _, rfl, rfl, hq2, (by rw [List.length_map, szl]; omega), _, rfl, ?_⟩
        refine k _ q (as ++ [p]) ((sm.add hp).put hq) hq ?_ ?_
        · rw [upd_same, List.map_append]; rfl
        · unfold lined
          rw [if_neg wn]
          exact RowsAt.put (RowsAt.snoc (ra.same (Same.new hp)) upd_same) (by simp [nq]; exact fun z => np z.symm)
      · have z := of_decide_eq_false z
        have wn : w0 = [] := List.length_eq_zero_iff.mp (by omega)
        refine ⟨_, rfl, k _ q as sm hq hq' ?_⟩
        unfold lined
        rw [if_pos wn, List.append_nil]
        exact ra
def spFields (K : PySem.W.Frag) : Sp := fun vs H Q _ => ∃ (a : Addr) (b : Sg.Bytes), vs = [.ref a] ∧ SqL K H a (bv b) ∧ b.length ≤ 100000 ∧
  ∀ (H' : Hp) (q : Addr) (as : List Addr), Same H H' → H q = none → H' q = some (.lst (as.map V.ref)) → RowsAt H' as (Sg.split 32 b) → Q (.ref q) H'
theorem ok_fields {f : Addr} {fd : FuncData} (F : Fun K "fields_of" "fields_of" s_fields_of f fd) (T : Txt K mg A) : FnOk P w K mg base CX0 1 f fd ["signs"] (spFields K) := by
  refine F.ok sc_fields_of (fun vs H Q E h => ?_) (fun cdv B outer s H vs Q E hr h => ?_)
  · obtain ⟨a, b, rfl, _⟩ := h
    rfl
  · obtain ⟨a, t, rfl, hs, hl, k⟩ := h
    have nd := sc_fields_of.nd
    refine ⟨_, pss_cons (ps_set (i := 1) nd rfl (Or.inl rfl) (pe_lst (pa_cons (pe_lst pa_nil) pa_nil)))
      (pss_cons (ps_for PassesOwn.never rfl (pi_list (pv 0)) (pg_name (i := 2) nd rfl (Or.inl rfl))
        (pss_one (ps_if (pt_cmpR op_eq (pv 2) (pk T.i7) (nomark _))
          (pss_one (ps_expr (pe_bm PySem.F.plainAttrs_list PySem.F.slot_list_append PySem.F.type_list_append mt_append (pv 1) (pa_cons (pe_lst pa_nil) pa_nil))))
          (pss_one (ps_expr (pe_bm PySem.F.plainAttrs_list PySem.F.slot_list_append PySem.F.type_list_append mt_append (pe_ix ix_list (pv 1) (pe_un un_neg pe_int) (fun _ _ => rfl)) (pa_cons (pv 2) pa_nil)))))))
      (pss_one (ps_ret (pv 1)))), ?_⟩
    refine ⟨Nat.zero_le _, fun l0 hl0 => ⟨(by show 1 ≤ sizeLine; decide), fun q hq => ?_⟩⟩
    have nq0 : q ≠ l0 := fun z => by rw [z, upd_same] at hq; cases hq
    have hq0 : H q = none := by rw [upd_ne nq0] at hq; exact hq
    have sq : Same H (upd (upd H l0 (.lst [])) q (.lst [V.ref l0])) := (Same.new hl0).add hq
    refine ⟨_, rfl, a, rfl, ⟨_, sq.seq hs⟩, for_list (K := K) (a := a) (xs := bv t) (fun i σ H' => ∃ (ws : List Sg.Bytes) (w : Sg.Bytes) (as : List Addr) (l : Addr) (v : Option V), σ = [some (.ref a), some (.ref q), v] ∧
        Sg.split 32 (t.take i) = ws ++ [w] ∧ Same H H' ∧ H' q = some (.lst ((as ++ [l]).map V.ref)) ∧ q ∉ as ∧ q ≠ l ∧ l ∉ as ∧ H l = none ∧ H' l = some (.lst (bv w)) ∧ RowsAt H' as ws ∧ as.length ≤ i ∧ w.length ≤ i)
      ⟨[], [], [], l0, none, rfl, rfl, sq, upd_same, by simp, nq0, by simp, hl0, by rw [upd_ne nq0.symm, upd_same]; rfl, RowsAt.nil, Nat.le_refl _, Nat.le_refl _⟩ (fun i σ H' _ ⟨_, _, _, _, _, _, _, s5, _⟩ => s5.seq hs) ?_ ?_⟩
    · rintro i y σ H' hy ⟨ws, w, as, l, v, rfl, h1, sm, hq', nq, nql, nl, hl0', hl', ra, la, lw⟩
      obtain ⟨c, hc, rfl⟩ := bv_of hy
      have hi : i < t.length := (List.getElem?_eq_some_iff.mp hc).1
      have tk : t.take (i + 1) = t.take i ++ [c] := take_snoc hc
      have sn := Mx.split_snoc 32 c h1
      rw [← tk] at sn
      refine ⟨_, rfl, rfl, _, rfl, ?_⟩
      rw [byte_is (z := 32) 32 rfl (by decide)]
      refine ifB (fun z => ?_) (fun z => ?_)
      · have z : c = 32 := of_decide_eq_true z
        rw [if_pos z] at sn
        refine ⟨_, rfl, .inl ⟨rfl, _, SqL.of hq'⟩, Nat.zero_le _, fun p hp => ?_⟩
        have np : p ≠ q := fun z => by rw [z, hq'] at hp; cases hp
        have npl : p ≠ l := fun z => by rw [z, hl'] at hp; cases hp
        have npa : p ∉ as := fun z => by obtain ⟨b, e⟩ := ra.some z; rw [e] at hp; cases hp
        refine ⟨q, _, _, rfl, rfl, at_new hq' hp, (by rw [List.length_map, List.length_append, szl]; simp; omega), ?_⟩
        refine ⟨ws ++ [w], [], as ++ [l], p, _, rfl, ?_, (sm.add hp).put hq0, ?_, ?_, fun z => np z.symm, ?_, sm.free hp, ?_, ?_, by simp; omega, Nat.zero_le _⟩
        · rw [sn]; simp
        · rw [upd_same]; simp
        · simp [nq, nql]
        · simp [npa, npl]
        · rw [upd_ne np, upd_same]; rfl
        · refine RowsAt.put (RowsAt.snoc (ra.same (Same.new hp)) (at_new hl' hp)) (by simp [nq, nql])
      · have z : ¬ c = 32 := of_decide_eq_false z
        rw [if_neg z] at sn
        refine ⟨_, rfl, _, rfl, q, _, -1, V.ref l, rfl, rfl, SqL.of hq', (by rw [List.map_append]; exact atI_last _ _), .inl ⟨rfl, _, SqL.of hl'⟩, _, rfl, l, _, _, rfl, rfl, hl', (by rw [bv_len, szl]; omega), ?_⟩
        refine ⟨ws, w ++ [c], as, l, _, rfl, sn, sm.put hl0', ?_, nq, nql, nl, hl0', ?_, ra.put nl, by omega, by simp; omega⟩
        · rw [upd_ne nql]; exact hq'
        · rw [upd_same, bv_app]; rfl
    · rintro σ H' ⟨ws, w, as, l, v, rfl, h1, sm, hq', nq, nql, nl, hl0', hl', ra, la, lw⟩
      rw [bv_len, List.take_length] at h1
      refine ⟨_, rfl, k H' q (as ++ [l]) sm hq0 hq' ?_⟩
      rw [h1]
      exact ra.snoc hl'
end
end Sl
end
section
set_option Elab.async false
set_option linter.all false
set_option maxRecDepth 100000
namespace Sl
open PySem PySem.Spec PyProof.Rows L2 TL
section
variable {P : Program} {w : World} {K : PySem.W.Frag} {mg : Str → Option Value} {base : Heap} {A : Ad}
def spNumber (K : PySem.W.Frag) : Sp := fun vs H Q _ => ∃ (a : Addr) (b : Sg.Bytes) (lo hi : Nat), vs = [.ref a, .int lo, .int hi] ∧ SqL K H a (bv b) ∧ b.length ≤ 100000 ∧ ∀ H', Same H H' → Q (lvV (Mx.num lo hi b)) H'
theorem ok_number {f : Addr} {fd : FuncData} (F : Fun K "read_number" "read_number" s_read_number f fd) (T : Txt K mg A) (D1 : Dn P w K mg base 1 "is_decimal" ["field"] (spDec K)) : FnOk P w K mg base CX0 2 f fd ["field", "least", "most"] (spNumber K) := by
  refine F.ok sc_read_number (fun vs H Q E h => ?_) (fun cdv B outer s H vs Q E hr h => ?_)
  · obtain ⟨a, b, lo, hi, rfl, _⟩ := h
    rfl
  · obtain ⟨a, b, lo, hi, rfl, hs, hl, k⟩ := h
    have nd := sc_read_number.nd
    refine ⟨_, pss_cons (ps_if (pt_not (pt_val (pe_dn D1 hr (pa_cons (pv 0) pa_nil)))) (pss_one (ps_ret pe_non)) pss_nil)
      (pss_cons (ps_set (i := 3) nd rfl (Or.inl rfl) pe_int)
      (pss_cons (ps_for PassesOwn.never rfl (pi_list (pv 0)) (pg_name (i := 4) nd rfl (Or.inl rfl)) (pss_one (ps_set (i := 3) nd rfl (Or.inl rfl) (pe_op op_sub (pe_op op_add (pe_op op_mul (pv 3) pe_int) (pv 4)) (pk T.i8)))))
      (pss_cons (ps_if (PW.pt (pw_or (pt_cmpR op_lt (pv 3) (pv 1) (nomark _)) (pw_or1 (pt_cmpR op_gt (pv 3) (pv 2) (nomark _))))) (pss_one (ps_ret pe_non)) pss_nil)
      (pss_one (ps_ret (pv 3)))))), ?_⟩
    refine ⟨_, rfl, a, b, rfl, hs, hl, fun H1 s1 => ⟨_, rfl, ifB (fun z => ?_) (fun z => ?_)⟩⟩
    · have z : ¬ Mx.decOk b = true := by simpa using z
      have e : Mx.num lo hi b = none := by unfold Mx.num; rw [if_neg fun q => z q.1]
      have k := k H1 s1
      rw [e] at k
      exact k
    · have z : Mx.decOk b = true := by simpa using z
      have hall : b.all Sg.isDigit = true := by
        unfold Mx.decOk at z
        simp only [Bool.and_eq_true] at z
        exact z.2.2
      refine ⟨_, rfl, a, rfl, ⟨_, s1.seq hs⟩, for_list (K := K) (a := a) (xs := bv b) (fun i σ H' => ∃ v, σ = [some (.ref a), some (.int lo), some (.int hi), some (.int (Mx.val (b.take i) : Nat)), v] ∧ H' = H1)
        ⟨none, rfl, rfl⟩ (fun i σ H' _ ⟨_, _, e⟩ => by rw [e]; exact s1.seq hs) ?_ ?_⟩
      · rintro i y σ H' hy ⟨v, rfl, rfl⟩
        obtain ⟨c, hc, rfl⟩ := bv_of hy
        have hd : Sg.isDigit c = true := List.all_eq_true.mp hall c (List.mem_of_getElem? hc)
        obtain ⟨d1, d2⟩ := Mx.isDigit_iff.mp hd
        refine ⟨_, rfl, _, _, rfl, rfl, .inr ⟨by decide, by decide⟩, _, rfl, _, _, rfl, rfl, _, _, rfl, rfl, some (.int ((c.toNat : Nat) : Int)), ?_, rfl⟩
        rw [take_snoc hc, Mx.val_snoc]
        have : ((Mx.val (b.take i) : Nat) : Int) * 10 + ((c.toNat : Nat) : Int) - 48 = ((10 * Mx.val (b.take i) + (c.toNat - 48) : Nat) : Int) := by omega
        dsimp only
        rw [this]; rfl
      · rintro σ H' ⟨v, rfl, rfl⟩
        rw [bv_len, List.take_length]
        have k := k H' s1
        refine ⟨_, rfl, _, rfl, _, _, rfl, rfl, _, rfl, ifB (fun y => iteT ?_) (fun y => ⟨_, rfl, _, rfl, _, _, rfl, rfl, _, rfl, ifB (fun y2 => ?_) (fun y2 => ?_)⟩)⟩
        · have y := of_decide_eq_true y
          have e : Mx.num lo hi b = none := by unfold Mx.num; rw [if_neg fun q => by omega]
          rw [e] at k
          exact k
        · have y2 := of_decide_eq_true y2
          have e : Mx.num lo hi b = none := by unfold Mx.num; rw [if_neg fun q => by omega]
          rw [e] at k
          exact k
        · have y := of_decide_eq_false y
          have y2 := of_decide_eq_false y2
          have e : Mx.num lo hi b = some (Mx.val b) := by unfold Mx.num; rw [if_pos ⟨z, by omega, by omega⟩]
          rw [e] at k
          exact ⟨_, rfl, k⟩
/-! ### read_curve -/
def pyd (l : List Int) : PyData := .list (l.map PyData.int)
theorem pyd_eqv : ∀ l m : List Int, PyData.eqvAll (l.map PyData.int) (m.map PyData.int) = decide (l = m)
  | [], [] => by simp [PyData.eqvAll]
  | [], _ :: _ => by simp [PyData.eqvAll]
  | _ :: _, [] => by simp [PyData.eqvAll]
  | a :: l, b :: m => by
    rw [List.map_cons, List.map_cons, PyData.eqvAll, PyData.eqv, pyd_eqv l m]
    by_cases h : a = b
    · subst h; by_cases q : l = m <;> simp [q]
    · simp [h]
theorem pyd_lay : ∀ l : List Int, PyData.canLayAll0 (l.map PyData.int) = true ∧ PyData.depthAll (l.map PyData.int) = 0
  | [] => by simp [PyData.canLayAll0, PyData.depthAll]
  | a :: l => by
    obtain ⟨h1, h2⟩ := pyd_lay l
    rw [List.map_cons, PyData.canLayAll0, PyData.depthAll, h1, h2]
    simp [PyData.canLay0, PyData.depth]
theorem pyd_shaped (l : List Int) : SeqAt.shaped (pyd l) = true := by
  obtain ⟨h1, h2⟩ := pyd_lay l
  unfold SeqAt.shaped pyd
  rw [PyData.canLay0, PyData.depth, h1, h2]; rfl
theorem dp_all {H : Hp} : ∀ l : List Int, DpAll K H (l.map V.int) (l.map PyData.int)
  | [] => .nil
  | a :: l => .cons (.int a) (dp_all l)
def bz (b : Sg.Bytes) : List Int := b.map fun c => ((c.toNat : Nat) : Int)
theorem bv_bz (b : Sg.Bytes) : bv b = (bz b).map V.int := by unfold bv bz; rw [List.map_map]; rfl
theorem bz_inj : ∀ {a b : Sg.Bytes}, bz a = bz b → a = b
  | [], [], _ => rfl
  | [], _ :: _, h => by simp [bz] at h
  | _ :: _, [], h => by simp [bz] at h
  | x :: a, y :: b, h => by
    have h : ((x.toNat : Nat) : Int) :: bz a = ((y.toNat : Nat) : Int) :: bz b := h
    injection h with h1 h2
    rw [bz_inj h2]
    have : x.toNat = y.toNat := by omega
    rw [UInt8.toNat_inj.mp this]
theorem curve_bytes : ∀ k, k < 4 → sv (cname k) = bv (Sg.CURVES.getD k []) := by
  intro k hk
  match k, hk with
  | 0, _ => decide +kernel
  | 1, _ => decide +kernel
  | 2, _ => decide +kernel
  | 3, _ => decide +kernel
def kV2 : Option Nat → V
  | none => .non
  | some k => .str (cname k)
def spRCurve (K : PySem.W.Frag) : Sp := fun vs H Q _ => ∃ (a : Addr) (b : Sg.Bytes), vs = [.ref a] ∧ SqL K H a (bv b) ∧ ∀ H', Same H H' → Q (kV2 (Mx.kind b)) H'
theorem ok_rcurve {f : Addr} {fd : FuncData} (F : Fun K "read_curve" "read_curve" s_read_curve f fd) (T : Txt K mg A) (D1 : Dn P w K mg base 1 "bytes_of" ["words"] spBytes) : FnOk P w K mg base CX0 2 f fd ["field"] (spRCurve K) := by
  refine F.ok sc_read_curve (fun vs H Q E h => ?_) (fun cdv B outer s H vs Q E hr h => ?_)
  · obtain ⟨a, b, rfl, _⟩ := h
    rfl
  · obtain ⟨a, b, rfl, hs, k⟩ := h
    have nd := sc_read_curve.nd
    refine ⟨_, pss_cons (ps_for PassesOwn.never rfl (pi_tup (pe_glob (v := .ref A.tC) rfl T.mC rfl)) (pg_name (i := 1) nd rfl (Or.inl rfl))
        (pss_one (ps_if (pt_cmpR (op_eqD hr.units) (pv 0) (pe_dn D1 hr (pa_cons (pv 1) pa_nil)) (nomark _)) (pss_one (ps_ret (pv 1))) pss_nil)))
      (pss_one (ps_ret pe_non)), ?_⟩
    have hb : SqL K H a ((bz b).map V.int) := by rw [← bv_bz]; exact hs
    refine ⟨A.tC, rfl, ⟨_, T.tC H⟩, for_tup (K := K) (a := A.tC) (xs := cnames.map V.str) (fun i σ H' => ∃ v, σ = [some (.ref a), v] ∧ Same H H' ∧ ∀ j, j < i → Sg.CURVES.getD j [] ≠ b)
      ⟨none, rfl, Same.refl H, fun j h => by omega⟩ (fun i σ H' _ _ => T.tC H') ?_ ?_⟩
    · rintro i y σ H' hy ⟨v, rfl, sm, hno⟩
      have hi : i < 4 := (List.getElem?_eq_some_iff.mp hy).1
      have hy : y = .str (cname i) := by
        match i, hi, hy with
        | 0, _, hy => cases hy; rfl
        | 1, _, hy => cases hy; rfl
        | 2, _, hy => cases hy; rfl
        | 3, _, hy => cases hy; rfl
      subst hy
      have cl : (cname i).length ≤ 100000 := by
        match i, hi with
        | 0, _ => decide +kernel
        | 1, _ => decide +kernel
        | 2, _ => decide +kernel
        | 3, _ => decide +kernel
      refine ⟨_, rfl, _, rfl, cname i, rfl, cl, fun q hq => ?_⟩
      rw [curve_bytes i hi, bv_bz]
      have sm1 : Same H (upd H' q (.lst ((bz (Sg.CURVES.getD i [])).map V.int))) := sm.add hq
      refine ⟨pyd (bz b), pyd (bz (Sg.CURVES.getD i [])), .lst (sm1.seq hb) (dp_all _), .lst (SqL.of upd_same) (dp_all _), pyd_shaped _, pyd_shaped _, _, rfl, ?_⟩
      unfold pyd
      rw [PyData.eqv, pyd_eqv]
      refine ifB (fun z => ?_) (fun z => ?_)
      · have z := bz_inj (of_decide_eq_true z)
        have e : Mx.kind b = some i := by
          unfold Mx.kind
          rw [List.findIdx?_eq_some_iff_getElem]
          have gd : ∀ j (hj : j < Sg.CURVES.length), Sg.CURVES[j] = Sg.CURVES.getD j [] := fun j hj => by rw [List.getD_eq_getElem?_getD, List.getElem?_eq_getElem hj]; rfl
          have hi' : i < Sg.CURVES.length := hi
          refine ⟨hi', by rw [gd i hi', z]; exact beq_self_eq_true _, fun j hj => ?_⟩
          rw [gd j (by omega)]
          intro q
          exact hno j hj (eq_of_beq q)
        have k := k _ sm1
        rw [e] at k
        exact ⟨_, rfl, k⟩
      · have z := of_decide_eq_false z
        refine ⟨_, rfl, sm1, fun j hj => ?_⟩
        by_cases e : j = i
        · subst e; exact fun q => z (by rw [q])
        · exact hno j (by omega)
    · rintro σ H' ⟨v, rfl, sm, hno⟩
      have e : Mx.kind b = none := by
        cases h : Mx.kind b with
        | none => rfl
        | some j =>
          obtain ⟨h1, h2⟩ := Mx.kind_le h
          refine absurd ?_ (hno j h1)
          rw [List.getD_eq_getElem?_getD, h2]; rfl
      have k := k _ sm
      rw [e] at k
      exact k
end
end Sl
end
section
set_option Elab.async false
set_option linter.all false
set_option maxRecDepth 100000
namespace Sl
open PySem PySem.Spec PyProof.Rows L2 TL
section
variable {X : Cx} {e : Expr} {es : List Expr} {te : TE} {t : TA} {i : Nat} {x : Str} {pos : Pos}
theorem star_name (x : Str) (pos : Pos) (es : List Expr) (env : Env) : starEach (.Name x pos :: es) env = (false, eval (.Name x pos) env) :: starEach es env := rfl
/-- a name as an argument -/
theorem pa_n (h : PE X (.Name x pos) te) (hr : PA X es t) : PA X (.Name x pos :: es) (tCons te t) := pa_cons h hr (star_name x pos es X.env)
end
section
variable {P : Program} {w : World} {K : PySem.W.Frag} {mg : Str → Option Value} {base : Heap} {A : Ad}
def spDInit (A : Ad) : Sp := fun vs H Q _ => ∃ (p dx : Addr) (d : Sg.Dimmer), vs = [.ref p, .int d.number, .int d.channel, .str (cname d.curve), .int d.limit, .int d.watts, .int d.phase] ∧ H p = some (.ins A.cD dx []) ∧ Q .non (upd H p (.ins A.cD dx (dfs d)))
theorem ok_dinit {f : Addr} {fd : FuncData} (F : Fun K "__init__" "Dimmer.__init__" s_Dimmer_init f fd) (T : Txt K mg A) : FnOk P w K mg base CX0 1 f fd ["self", "number", "channel", "curve", "limit", "load", "phase"] (spDInit A) := by
  refine F.ok sc_Dimmer_init (fun vs H Q E h => ?_) (fun cdv B outer s H vs Q E hr h => ?_)
  · obtain ⟨p, dx, d, rfl, _⟩ := h
    rfl
  · obtain ⟨p, dx, d, rfl, hp, k⟩ := h
    refine ⟨_, pss_cons (ps_fld (pv 0) (pv 1) rfl) (pss_cons (ps_fld (pv 0) (pv 2) rfl) (pss_cons (ps_fld (pv 0) (pv 3) rfl) (pss_cons (ps_fld (pv 0) (pv 4) rfl) (pss_cons (ps_fld (pv 0) (pv 5) rfl) (pss_one (ps_fld (pv 0) (pv 6) rfl)))))), ?_⟩
    refine ⟨_, rfl, _, rfl, p, _, dx, [], rfl, hp, T.clD, T.nD1, (by show 0 < 1000; decide), ?_⟩
    rw [pf_nil]
    refine ⟨_, rfl, _, rfl, p, _, dx, _, rfl, upd_same, T.clD, T.nD2, (by show 1 < 1000; decide), ?_⟩
    rw [pf_skip (by decide), pf_nil]
    refine ⟨_, rfl, _, rfl, p, _, dx, _, rfl, upd_same, T.clD, T.nD3, (by show 2 < 1000; decide), ?_⟩
    rw [pf_skip (by decide), pf_skip (by decide), pf_nil]
    refine ⟨_, rfl, _, rfl, p, _, dx, _, rfl, upd_same, T.clD, T.nD4, (by show 3 < 1000; decide), ?_⟩
    rw [pf_skip (by decide), pf_skip (by decide), pf_skip (by decide), pf_nil]
    refine ⟨_, rfl, _, rfl, p, _, dx, _, rfl, upd_same, T.clD, T.nD5, (by show 4 < 1000; decide), ?_⟩
    rw [pf_skip (by decide), pf_skip (by decide), pf_skip (by decide), pf_skip (by decide), pf_nil]
    refine ⟨_, rfl, _, rfl, p, _, dx, _, rfl, upd_same, T.clD, T.nD6, (by show 5 < 1000; decide), ?_⟩
    rw [pf_skip (by decide), pf_skip (by decide), pf_skip (by decide), pf_skip (by decide), pf_skip (by decide), pf_nil, upd_upd, upd_upd, upd_upd, upd_upd, upd_upd]
    exact k
/-- an error's line and why -/
structure FaultAt (H : Hp) (dx : Addr) (n y : Nat) : Prop where
  ex : ∃ fs, H dx = some (XD dx fs) ∧ fs.lookup ("line" : Str) = some (.int (n : Nat)) ∧ fs.lookup ("why" : Str) = some (.int (y : Nat))
def spTInit (A : Ad) : Sp := fun vs H Q _ => ∃ (x tt : Addr) (n y : Nat), vs = [.ref x, .int n, .int y] ∧ H x = some (XO x A.cT tt none) ∧
  ∀ (H' : Hp) (dx : Addr), H' x = some (XO x A.cT tt (some dx)) → dx ≠ x → FaultAt H' dx n y → (∀ b o, H b = some o → b ≠ x → H' b = some o) → Q .non H'
theorem ok_tinit {f : Addr} {fd : FuncData} (F : Fun K "__init__" "TextFault.__init__" s_TextFault_init f fd) (T : Txt K mg A) : FnOk P w K mg base CX0 1 f fd ["self", "line", "why"] (spTInit A) := by
  refine F.ok sc_TextFault_init (fun vs H Q E h => ?_) (fun cdv B outer s H vs Q E hr h => ?_)
  · obtain ⟨x, tt, n, y, rfl, _⟩ := h
    rfl
  · obtain ⟨x, tt, n, y, rfl, hx, k⟩ := h
    refine ⟨_, pss_cons (ps_xfld T.xT (pv 0) (pv 1) rfl) (pss_one (ps_xfld T.xT (pv 0) (pv 2) rfl)), ?_⟩
    refine ⟨_, rfl, _, rfl, x, tt, rfl, T.xT1, .inl ⟨hx, fun dx hd ne => ?_⟩⟩
    have h1 : upd (upd H dx (XD dx [("line", V.int (n : Int))])) x (XO x A.cT tt (some dx)) dx = some (XD dx [("line", V.int (n : Int))]) := by rw [upd_ne ne, upd_same]
    refine ⟨_, rfl, _, rfl, x, tt, rfl, T.xT2, .inr ⟨dx, _, upd_same, h1, ne, (by show 1 < 1000; decide), ?_⟩⟩
    refine k _ dx ?_ ne ⟨⟨_, upd_same, ?_, ?_⟩⟩ fun b o e hb => ?_
    · rw [upd_ne ne.symm, upd_same]
    · rw [lookup_putF, if_neg (by decide)]; exact lk_here _ _ _
    · rw [lookup_putF, if_pos rfl]
    · rw [upd_ne (ne_of_none e hd), upd_ne hb, upd_ne (ne_of_none e hd)]; exact e
/-! ### read_dimmer -/
def dimL (l : Sg.Bytes) (c : UInt8) : Option Sg.Dimmer := if c = 10 then Sg.dimmerIn l else none
def IsDim (A : Ad) (H : Hp) (v : V) : Option Sg.Dimmer → Prop
  | none => v = .non
  | some d => ∃ x, v = .ref x ∧ DimAt A H x d
def spRDim (K : PySem.W.Frag) (A : Ad) : Sp := fun vs H Q _ => ∃ (a : Addr) (l : Sg.Bytes) (c : UInt8), vs = [.ref a] ∧ SqL K H a (bv (l ++ [c])) ∧ l.length ≤ 90000 ∧ ∀ H' v, Same H H' → IsDim A H' v (dimL l c) → Q v H'
theorem split_len (c : UInt8) : ∀ l : Sg.Bytes, ∀ f ∈ Sg.split c l, f.length ≤ l.length
  | [], f, h => by simp [Sg.split] at h; subst h; simp
  | x :: r, f, h => by
    cases e : Sg.split c r with
    | nil => exact absurd e (Mx.split_ne c r)
    | cons v l =>
      have ih := split_len c r
      rw [e] at ih
      rw [Mx.split_cons e] at h
      by_cases hx : x = c
      · rw [if_pos hx] at h
        rcases List.mem_cons.mp h with rfl | h
        · simp
        · have := ih f h; simp; omega
      · rw [if_neg hx] at h
        rcases List.mem_cons.mp h with rfl | h
        · have := ih v List.mem_cons_self; simp; omega
        · have := ih f (List.mem_cons_of_mem _ h); simp; omega
theorem cut_last {xs : List V} {v : V} : cutV (xs ++ [v]) none (some (-1)) = xs := by
  unfold cutV
  have e : HT.sIx (xs ++ [v]).length (xs ++ [v]).length (some (-1)) = xs.length := by
    show (if (-1 : Int) < 0 then (-1 + ((xs ++ [v]).length : Int)).toNat else min (-1 : Int).toNat (xs ++ [v]).length) = xs.length
    rw [if_pos (by decide)]
    simp only [List.length_append, List.length_singleton]
    omega
  rw [e, HT.sIx_none]
  simp
theorem six_in (o1 o2 o3 o4 o5 o6 : Option Nat) : inV .non [lvV o1, lvV o2, kV2 o3, lvV o4, lvV o5, lvV o6] = !(o1.isSome && (o2.isSome && (o3.isSome && (o4.isSome && (o5.isSome && o6.isSome))))) := by
  cases o1 <;> cases o2 <;> cases o3 <;> cases o4 <;> cases o5 <;> cases o6 <;> rfl
theorem six_flat (o1 o2 o3 o4 o5 o6 : Option Nat) : [lvV o1, lvV o2, kV2 o3, lvV o4, lvV o5, lvV o6].all flatV = true := by
  cases o1 <;> cases o2 <;> cases o3 <;> cases o4 <;> cases o5 <;> cases o6 <;> rfl
theorem six_def (a b c d e f : Sg.Bytes) : Mx.six a b c d e f = (match Mx.num 1 128 a, Mx.num 1 64 b, Mx.kind c, Mx.num 1 100 d, Mx.num 0 5000 e, Mx.num 1 3 f with
  | some n, some c, some k, some l, some w, some p => some ⟨n, c, k, l, w, p⟩
  | _, _, _, _, _, _ => none) := rfl
theorem ok_rdim {f : Addr} {fd : FuncData} (F : Fun K "read_dimmer" "read_dimmer" s_read_dimmer f fd) (T : Txt K mg A) (D1 : Dn P w K mg base 1 "fields_of" ["signs"] (spFields K)) (D2 : Dn P w K mg base 2 "read_number" ["field", "least", "most"] (spNumber K))
    (D3 : Dn P w K mg base 2 "read_curve" ["field"] (spRCurve K)) (D4 : Cd P w K mg base 1 "Dimmer" A.cD ["self", "number", "channel", "curve", "limit", "load", "phase"] (spDInit A)) :
    FnOk P w K mg base CX0 3 f fd ["line"] (spRDim K A) := by
  refine F.ok sc_read_dimmer (fun vs H Q E h => ?_) (fun cdv B outer s H vs Q E hr h => ?_)
  · obtain ⟨a, l, c, rfl, _⟩ := h
    rfl
  · obtain ⟨a, l, c, rfl, hs, hl, k⟩ := h
    have nd := sc_read_dimmer.nd
    have hr1 : Room 1 _ := hr.mono (by decide)
    refine ⟨_, pss_cons (ps_if (pt_cmpR op_ne (pe_ix ix_list (pv 0) (pe_un un_neg pe_int) (fun _ _ => rfl)) (pk T.i6) (nomark _)) (pss_one (ps_ret pe_non)) pss_nil)
      (pss_cons (ps_set (i := 1) nd rfl (Or.inl rfl) (pe_dn D1 hr1 (pa_cons (pe_slice sl_list (pv 0) po_none (po_some (pe_un un_neg pe_int))) pa_nil)))
      (pss_cons (ps_if (pt_cmpR op_ne (pe_len T.b1 (pv 1)) (pk T.i10) (nomark _)) (pss_one (ps_ret pe_non)) pss_nil)
      (pss_cons (ps_set (i := 2) nd rfl (Or.inl rfl) (pe_dn D2 hr (pa_cons (pe_ix ix_list (pv 1) pe_int (fun _ _ => rfl)) (pa_cons pe_int (pa_cons (pk T.i1) pa_nil)))))
      (pss_cons (ps_set (i := 3) nd rfl (Or.inl rfl) (pe_dn D2 hr (pa_cons (pe_ix ix_list (pv 1) pe_int (fun _ _ => rfl)) (pa_cons pe_int (pa_cons (pk T.i2) pa_nil)))))
      (pss_cons (ps_set (i := 4) nd rfl (Or.inl rfl) (pe_dn D3 hr (pa_cons (pe_ix ix_list (pv 1) pe_int (fun _ _ => rfl)) pa_nil)))
      (pss_cons (ps_set (i := 5) nd rfl (Or.inl rfl) (pe_dn D2 hr (pa_cons (pe_ix ix_list (pv 1) pe_int (fun _ _ => rfl)) (pa_cons pe_int (pa_cons (pk T.i3) pa_nil)))))
      (pss_cons (ps_set (i := 6) nd rfl (Or.inl rfl) (pe_dn D2 hr (pa_cons (pe_ix ix_list (pv 1) pe_int (fun _ _ => rfl)) (pa_cons pe_int (pa_cons (pk T.i4) pa_nil)))))
      (pss_cons (ps_set (i := 7) nd rfl (Or.inl rfl) (pe_dn D2 hr (pa_cons (pe_ix ix_list (pv 1) pe_int (fun _ _ => rfl)) (pa_cons pe_int (pa_cons (pk T.i5) pa_nil)))))
      (pss_cons (ps_if (pt_cmpR op_in_seq pe_non (pe_tup (pa_n (pv 2) (pa_n (pv 3) (pa_n (pv 4) (pa_n (pv 5) (pa_n (pv 6) (pa_n (pv 7) pa_nil))))))) (by with_unfolding_all rfl)) (pss_one (ps_ret pe_non)) pss_nil)
      (pss_one (ps_ret (pe_cd D4 hr (pa_n (pv 2) (pa_n (pv 3) (pa_n (pv 4) (pa_n (pv 5) (pa_n (pv 6) (pa_n (pv 7) pa_nil)))))))))))))))))), ?_⟩
    have hs' : SqL K H a (bv l ++ [V.int ((c.toNat : Nat) : Int)]) := by have := hs; rw [bv_app] at this; exact this
    refine ⟨_, rfl, _, rfl, a, _, -1, _, rfl, rfl, hs', atI_last _ _, rfl, _, rfl, ?_⟩
    rw [byte_is (z := 10) 10 rfl (by decide)]
    refine ifB (fun z => ?_) (fun z => ?_)
    · have z : ¬ c = 10 := by simpa using z
      refine k H .non (Same.refl H) ?_
      unfold dimL
      rw [if_neg z]
      rfl
    · have z : c = 10 := by simpa using z
      subst z
      refine ⟨_, rfl, _, rfl, _, rfl, a, _, rfl, hs', fun p hp => ?_⟩
      rw [cut_last]
      have s1 : Same H (upd H p (.lst (bv l))) := Same.new hp
      refine ⟨p, l, rfl, SqL.of upd_same, by omega, fun H2 q as s2 hq0 hq ra => ?_⟩
      have s02 := s1.trans s2
      refine ⟨_, rfl, q, _, rfl, .inl (SqL.of hq), rfl, _, rfl, ?_⟩
      have dE : dimL l 10 = Sg.dimmerIn l := by unfold dimL; rw [if_pos rfl]
      rw [dE, Mx.dimmerIn_eq] at k
      have fl := split_len 32 l
      generalize Sg.split 32 l = fs at ra k fl
      have ln : ((as.map V.ref).length : Int) = (fs.length : Int) := by rw [List.length_map, ra.len]
      rw [ln]
      refine ifB (fun z => ?_) (fun z => ?_)
      · have z : ¬ fs.length = 6 := fun y => by rw [y] at z; exact absurd z (by decide)
        refine k H2 .non s02 ?_
        split
        · exact absurd rfl z
        · rfl
      · have z : fs.length = 6 := by
          have z : decide (V.int (fs.length : Int) = V.int 6) = true := by simpa using z
          have := V.int.inj (of_decide_eq_true z)
          omega
        obtain ⟨f1, f2, f3, f4, f5, f6, rfl⟩ : ∃ f1 f2 f3 f4 f5 f6, fs = [f1, f2, f3, f4, f5, f6] := by
          match fs, z with
          | [f1, f2, f3, f4, f5, f6], _ => exact ⟨f1, f2, f3, f4, f5, f6, rfl⟩
        obtain ⟨a1, e1, g1⟩ := ra.get (i := 0) rfl
        obtain ⟨a2, e2, g2⟩ := ra.get (i := 1) rfl
        obtain ⟨a3, e3, g3⟩ := ra.get (i := 2) rfl
        obtain ⟨a4, e4, g4⟩ := ra.get (i := 3) rfl
        obtain ⟨a5, e5, g5⟩ := ra.get (i := 4) rfl
        obtain ⟨a6, e6, g6⟩ := ra.get (i := 5) rfl
        have l1 := fl f1 (by simp)
        have l2 := fl f2 (by simp)
        have l4 := fl f4 (by simp)
        have l5 := fl f5 (by simp)
        have l6 := fl f6 (by simp)
        refine ⟨_, rfl, q, _, 0, _, rfl, rfl, SqL.of hq, atI_nat (j := 0) (ref_at e1), a1, f1, 1, 128, rfl, SqL.of g1, by omega, fun H3 s3 => ?_⟩
        refine ⟨_, rfl, q, _, 1, _, rfl, rfl, SqL.of (s3 _ _ hq), atI_nat (j := 1) (ref_at e2), a2, f2, 1, 64, rfl, SqL.of (s3 _ _ g2), by omega, fun H4 s4 => ?_⟩
        have s24 := s3.trans s4
        refine ⟨_, rfl, q, _, 2, _, rfl, rfl, SqL.of (s24 _ _ hq), atI_nat (j := 2) (ref_at e3), a3, f3, rfl, SqL.of (s24 _ _ g3), fun H5 s5 => ?_⟩
        have s25 := s24.trans s5
        refine ⟨_, rfl, q, _, 3, _, rfl, rfl, SqL.of (s25 _ _ hq), atI_nat (j := 3) (ref_at e4), a4, f4, 1, 100, rfl, SqL.of (s25 _ _ g4), by omega, fun H6 s6 => ?_⟩
        have s26 := s25.trans s6
        refine ⟨_, rfl, q, _, 4, _, rfl, rfl, SqL.of (s26 _ _ hq), atI_nat (j := 4) (ref_at e5), a5, f5, 0, 5000, rfl, SqL.of (s26 _ _ g5), by omega, fun H7 s7 => ?_⟩
        have s27 := s26.trans s7
        refine ⟨_, rfl, q, _, 5, _, rfl, rfl, SqL.of (s27 _ _ hq), atI_nat (j := 5) (ref_at e6), a6, f6, 1, 3, rfl, SqL.of (s27 _ _ g6), by omega, fun H8 s8 => ?_⟩
        have s08 := s02.trans (s27.trans s8)
        refine ⟨_, rfl, _, rfl, _, rfl, _, rfl, _, rfl, _, rfl, (by show 6 ≤ sizeLine; decide), fun tp htp => ?_⟩
        refine ⟨tp, _, rfl, .inr (SqT.of upd_same), rfl, six_flat _ _ _ _ _ _, _, rfl, ?_⟩
        have k2 : ∀ (H' : Hp) (v : V), Same H H' → IsDim A H' v (Mx.six f1 f2 f3 f4 f5 f6) → Q v H' := k
        rw [six_def] at k2
        show if (inV .non [lvV (Mx.num 1 128 f1), lvV (Mx.num 1 64 f2), kV2 (Mx.kind f3), lvV (Mx.num 1 100 f4), lvV (Mx.num 0 5000 f5), lvV (Mx.num 1 3 f6)]) = true then _ else _
        rw [six_in]
        generalize Mx.num 1 128 f1 = o1 at k2 ⊢
        generalize Mx.num 1 64 f2 = o2 at k2 ⊢
        generalize Mx.kind f3 = o3 at k2 ⊢
        generalize Mx.num 1 100 f4 = o4 at k2 ⊢
        generalize Mx.num 0 5000 f5 = o5 at k2 ⊢
        generalize Mx.num 1 3 f6 = o6 at k2 ⊢
        have s09 := s08.add (o := .tup [lvV o1, lvV o2, kV2 o3, lvV o4, lvV o5, lvV o6]) htp
        refine ifB (fun y => ?_) (fun y => ?_)
        · refine k2 _ .non s09 ?_
          split
          · exact absurd y (by simp)
          · rfl
        · cases o1 with
          | none => exact absurd y (by simp)
          | some v1 =>
          cases o2 with
          | none => exact absurd y (by simp)
          | some v2 =>
          cases o3 with
          | none => exact absurd y (by simp)
          | some v3 =>
          cases o4 with
          | none => exact absurd y (by simp)
          | some v4 =>
          cases o5 with
          | none => exact absurd y (by simp)
          | some v5 =>
          cases o6 with
          | none => exact absurd y (by simp)
          | some v6 =>
            refine ⟨_, rfl, _, rfl, _, rfl, _, rfl, _, rfl, _, rfl, ?_⟩
            intro x dx nx ndx ne
            refine ⟨x, dx, ⟨v1, v2, v3, v4, v5, v6⟩, rfl, upd_same, rfl, ?_⟩
            refine k2 _ (.ref x) (s09.trans fun b u e => ?_) ⟨x, rfl, dx, upd_same⟩
            rw [upd_ne (ne_of_none e nx), upd_ne (ne_of_none e nx), upd_ne (ne_of_none e ndx)]; exact e
end
end Sl
end
section
set_option Elab.async false
set_option linter.all false
set_option maxRecDepth 100000
namespace Sl
open PySem PySem.Spec PyProof.Rows L2 TL
/-! ### dealings.py -/
def lfs (s f : Addr) : List (Str × V) := [("sums", .ref s), ("phases", .ref f)]
theorem lfs1 (s f : Addr) : (lfs s f).lookup ("sums" : Str) = some (.ref s) := by unfold lfs; rw [lk_here]
theorem lfs2 (s f : Addr) : (lfs s f).lookup ("phases" : Str) = some (.ref f) := by unfold lfs; rw [lk_skip (by decide), lk_here]
theorem lfs_no {s f : Addr} {m : Str} (h1 : ¬ m = "sums") (h2 : ¬ m = "phases") : (lfs s f).lookup m = none := by unfold lfs; rw [lk_skip h1, lk_skip h2]; rfl
/-- a dealing: its sums, its phases -/
def DealAt (A : Ad) (H : Hp) (a : Addr) (S p : List Nat) : Prop := ∃ dx s f, H a = some (.ins A.cL dx (lfs s f)) ∧ H s = some (.lst (nv S)) ∧ H f = some (.lst (nv p))
theorem DealAt.same {A : Ad} {H H' : Hp} {a : Addr} {S p : List Nat} (h : DealAt A H a S p) (s : Same H H') : DealAt A H' a S p := let ⟨dx, x, y, h1, h2, h3⟩ := h; ⟨dx, x, y, s _ _ h1, s _ _ h2, s _ _ h3⟩
section
variable {P : Program} {w : World} {K : PySem.W.Frag} {mg : Str → Option Value} {base : Heap} {A : Ad}
def spLInit (A : Ad) : Sp := fun vs H Q _ => ∃ (p s f dx : Addr), vs = [.ref p, .ref s, .ref f] ∧ H p = some (.ins A.cL dx []) ∧ Q .non (upd H p (.ins A.cL dx (lfs s f)))
theorem ok_linit {f : Addr} {fd : FuncData} (F : Fun K "__init__" "Dealing.__init__" s_Dealing_init f fd) (T : Txt K mg A) : FnOk P w K mg base CX0 1 f fd ["self", "sums", "phases"] (spLInit A) := by
  refine F.ok sc_Dealing_init (fun vs H Q E h => ?_) (fun cdv B outer s H vs Q E hr h => ?_)
  · obtain ⟨p, s, f, dx, rfl, _⟩ := h
    rfl
  · obtain ⟨p, s, f, dx, rfl, hp, k⟩ := h
    refine ⟨_, pss_cons (ps_fld (pv 0) (pv 1) rfl) (pss_one (ps_fld (pv 0) (pv 2) rfl)), ?_⟩
    refine ⟨_, rfl, _, rfl, p, _, dx, [], rfl, hp, T.clL, T.nL1, (by show 0 < 1000; decide), _, rfl, _, rfl, p, _, dx, _, rfl, upd_same, T.clL, T.nL2, (by show 1 < 1000; decide), ?_⟩
    have e : putF "phases" (V.ref f) (putF "sums" (V.ref s) []) = lfs s f := by rw [pf_nil, pf_skip (by decide), pf_nil]; rfl
    show Q .non (upd (upd H p _) p (.ins _ dx (putF "phases" (V.ref f) (putF "sums" (V.ref s) []))))
    rw [e, upd_upd]
    exact k
/-- a dealing is made: of what stands behind Dealing(sums, phases) -/
theorem deal_made {A : Ad} {H1 : Hp} {x dx s f : Addr} {S p : List Nat} (hs : H1 s = some (.lst (nv S))) (hf : H1 f = some (.lst (nv p))) (nx : H1 x = none) (nd : H1 dx = none) (ne : dx ≠ x) {o : HO} :
    DealAt A (upd (upd (upd H1 dx (.own x)) x o) x (.ins A.cL dx (lfs s f))) x S p ∧ Same H1 (upd (upd (upd H1 dx (.own x)) x o) x (.ins A.cL dx (lfs s f))) := by
  have sm : Same H1 (upd (upd (upd H1 dx (.own x)) x o) x (.ins A.cL dx (lfs s f))) := fun b u e => by
    rw [upd_ne (ne_of_none e nx), upd_ne (ne_of_none e nx), upd_ne (ne_of_none e nd)]; exact e
  exact ⟨⟨dx, s, f, upd_same, sm _ _ hs, sm _ _ hf⟩, sm⟩
def spWith (A : Ad) : Sp := fun vs H Q _ => ∃ (a : Addr) (S p : List Nat) (w x s : Nat), vs = [.ref a, .int w, .int x] ∧ DealAt A H a S p ∧ 1 ≤ x ∧ S[x - 1]? = some s ∧ S.length = 3 ∧ p.length ≤ 100 ∧
  ∀ (H' : Hp) (q : Addr), Same H H' → H q = none → DealAt A H' q (S.set (x - 1) (s + w)) (p ++ [x]) → Q (.ref q) H'
theorem nv_set (l : List Nat) (i n : Nat) : (nv l).set i (V.int (n : Int)) = nv (l.set i n) := by unfold nv; rw [List.map_set]
theorem nv_app (l m : List Nat) : nv (l ++ m) = nv l ++ nv m := List.map_append
theorem ok_with {f : Addr} {fd : FuncData} (F : Fun K "with_load" "Dealing.with_load" s_Dealing_with_load f fd) (T : Txt K mg A) (D1 : Cd P w K mg base 1 "Dealing" A.cL ["self", "sums", "phases"] (spLInit A)) :
    FnOk P w K mg base CX0 3 f fd ["self", "load", "phase"] (spWith A) := by
  refine F.ok sc_Dealing_with_load (fun vs H Q E h => ?_) (fun cdv B outer s H vs Q E hr h => ?_)
  · obtain ⟨a, S, p, w, x, s, rfl, _⟩ := h
    rfl
  · obtain ⟨a, S, p, wl, x, s, rfl, ⟨dx, sa, fa, ha, hsa, hfa⟩, hx, hs, h3, hp, k⟩ := h
    have nd := sc_Dealing_with_load.nd
    refine ⟨_, pss_cons (ps_set (i := 3) nd rfl (Or.inl rfl) (pe_callTy call_list_of rfl T.b9 PyProof.Rows.boot_list (pa_cons (pe_fld (pv 0) rfl) pa_nil)))
      (pss_cons (ps_asg (pe_op op_add (pe_ix ix_list (pv 3) (pe_op op_sub (pv 2) pe_int) (fun _ _ => rfl)) (pv 1)) (pg_sub (pv 3) (pe_op op_sub (pv 2) pe_int) set_list))
      (pss_one (ps_ret (pe_cd D1 hr (pa_cons (pv 3) (pa_cons (pe_op op_cat (pe_fld (pv 0) rfl) (pe_lst (pa_cons (pv 2) pa_nil))) pa_nil)))))), ?_⟩
    refine ⟨_, rfl, a, _, dx, _, _, rfl, ha, T.clL, T.nL1, lfs1 _ _, sa, _, rfl, .inl (SqL.of hsa), fun l hl => ?_⟩
    have i1 : ((x : Int) - 1) = ((x - 1 : Nat) : Int) := by omega
    have lx : x - 1 < S.length := (List.getElem?_eq_some_iff.mp hs).1
    have s1 : Same H (upd H l (.lst (nv S))) := Same.new hl
    refine ⟨_, rfl, _, rfl, _, _, rfl, rfl, l, _, _, _, rfl, rfl, SqL.of upd_same, at_of i1 (nv_at hs), _, rfl, _, _, rfl, rfl, _, rfl, _, rfl, _, _, rfl, rfl, l, _, _, x - 1, rfl, rfl, upd_same, ?_, ?_⟩
    · rw [i1, nv_len]
      unfold ixN
      rw [if_pos (by omega), if_pos (by omega)]; rfl
    · rw [upd_upd]
      have e1 : (nv S).set (x - 1) (V.int ((s : Int) + (wl : Int))) = nv (S.set (x - 1) (s + wl)) := nv_set S (x - 1) (s + wl)
      rw [e1]
      have s2 : Same H (upd H l (.lst (nv (S.set (x - 1) (s + wl))))) := Same.new hl
      refine ⟨_, rfl, _, rfl, a, _, dx, _, _, rfl, s2 _ _ ha, T.clL, T.nL2, lfs2 _ _, _, rfl, (by show 1 ≤ sizeLine; decide), fun y hy => ?_⟩
      refine ⟨fa, y, _, _, rfl, rfl, at_new (s2 _ _ hfa) hy, upd_same, (by rw [nv_len, szl]; show p.length + 1 ≤ _; omega), fun z hz => ?_⟩
      intro q dq nq ndq neq
      refine ⟨q, l, z, dq, rfl, upd_same, rfl, ?_⟩
      have e2 : nv p ++ [V.int (x : Int)] = nv (p ++ [x]) := by rw [nv_app]; rfl
      have s3 : Same H (upd (upd (upd H l (.lst (nv (S.set (x - 1) (s + wl))))) y (.lst [V.int (x : Int)])) z (.lst (nv p ++ [V.int (x : Int)]))) := (s2.add hy).add hz
      have hL : (upd (upd (upd H l (.lst (nv (S.set (x - 1) (s + wl))))) y (.lst [V.int (x : Int)])) z (.lst (nv p ++ [V.int (x : Int)]))) l = some (.lst (nv (S.set (x - 1) (s + wl)))) := at_new (at_new upd_same hy) hz
      have hZ : (upd (upd (upd H l (.lst (nv (S.set (x - 1) (s + wl))))) y (.lst [V.int (x : Int)])) z (.lst (nv p ++ [V.int (x : Int)]))) z = some (.lst (nv (p ++ [x]))) := by rw [upd_same, e2]
      obtain ⟨m1, m2⟩ := deal_made (A := A) hL hZ nq ndq neq (o := .ins _ dq [])
      exact k _ q (s3.trans m2) (s3.free nq) m1
/-! ### is_needless -/
def spNeed (A : Ad) : Sp := fun vs H Q _ => ∃ (a : Addr) (S p : List Nat) (x s : Nat), vs = [.ref a, .int x] ∧ DealAt A H a S p ∧ 1 ≤ x ∧ x ≤ 3 ∧ S[x - 1]? = some s ∧ ∀ H', Same H H' → Q (.bl ((S.take (x - 1)).any fun y => y == s)) H'
theorem nv_take (l : List Nat) (i : Nat) : (nv l).take i = nv (l.take i) := by unfold nv; rw [List.map_take]
theorem inV_nat (s : Nat) : ∀ l : List Nat, inV (.int (s : Int)) (nv l) = l.any fun y => y == s
  | [] => rfl
  | y :: l => by
    have ih := inV_nat s l
    unfold inV at ih ⊢
    show (((y : Int) == (s : Int)) || (nv l).any fun z => eqV z (.int (s : Int))) = (y == s || l.any fun y => y == s)
    have e : ((y : Int) == (s : Int)) = (y == s) := by
      by_cases h : y = s
      · subst h; rw [beq_self_eq_true, beq_self_eq_true]
      · rw [beq_eq_false_iff_ne.mpr h, beq_eq_false_iff_ne.mpr (show (y : Int) ≠ (s : Int) by omega)]
    rw [ih, e]
theorem flat_nv : ∀ l : List Nat, (nv l).all flatV = true
  | [] => rfl
  | y :: l => flat_nv l
theorem cut_head {xs : List V} {k : Nat} (h : k ≤ xs.length) : cutV xs none (some ((k : Nat) : Int)) = xs.take k := by
  unfold cutV
  rw [HT.sIx_nat, HT.sIx_none, Nat.min_eq_left h]; rfl
theorem ok_need {f : Addr} {fd : FuncData} (F : Fun K "is_needless" "Dealing.is_needless" s_Dealing_is_needless f fd) (T : Txt K mg A) : FnOk P w K mg base CX0 1 f fd ["self", "phase"] (spNeed A) := by
  refine F.ok sc_Dealing_is_needless (fun vs H Q E h => ?_) (fun cdv B outer s H vs Q E hr h => ?_)
  · obtain ⟨a, S, p, x, s, rfl, _⟩ := h
    rfl
  · obtain ⟨a, S, p, x, s, rfl, ⟨dx, sa, fa, ha, hsa, hfa⟩, hx, hx3, hs, k⟩ := h
    refine ⟨_, pss_one (ps_ret (pe_cmpR op_in_seq (pe_ix ix_list (pe_fld (pv 0) rfl) (pe_op op_sub (pv 1) pe_int) (fun _ _ => rfl)) (pe_slice sl_list (pe_fld (pv 0) rfl) po_none (po_some (pe_op op_sub (pv 1) pe_int))) (by with_unfolding_all rfl))), ?_⟩
    have i1 : ((x : Int) - 1) = ((x - 1 : Nat) : Int) := by omega
    have lx : x - 1 < S.length := (List.getElem?_eq_some_iff.mp hs).1
    refine ⟨_, rfl, a, _, dx, _, _, rfl, ha, T.clL, T.nL1, lfs1 _ _, _, rfl, _, _, rfl, rfl, sa, _, _, _, rfl, rfl, SqL.of hsa, at_of i1 (nv_at hs), _, rfl, a, _, dx, _, _, rfl, ha, T.clL, T.nL1, lfs1 _ _, _, rfl, _, _, rfl, rfl, _, rfl, sa, _, rfl, SqL.of hsa, fun q hq => ?_⟩
    rw [i1, cut_head (by rw [nv_len]; omega), nv_take]
    refine ⟨q, _, rfl, .inl (SqL.of upd_same), rfl, flat_nv _, ?_⟩
    have k := k _ (Same.new (o := .lst (nv (S.take (x - 1)))) hq)
    rw [← inV_nat] at k
    exact k
/-! ### no_loads_dealt -/
def spNone (A : Ad) : Sp := fun vs H Q _ => vs = [] ∧ ∀ (H' : Hp) (q : Addr), Same H H' → H q = none → DealAt A H' q [0, 0, 0] [] → Q (.ref q) H'
theorem ok_none {f : Addr} {fd : FuncData} (F : Fun K "no_loads_dealt" "no_loads_dealt" s_no_loads_dealt f fd) (T : Txt K mg A) (D1 : Cd P w K mg base 1 "Dealing" A.cL ["self", "sums", "phases"] (spLInit A)) :
    FnOk P w K mg base CX0 3 f fd [] (spNone A) := by
  refine F.ok sc_no_loads_dealt (fun vs H Q E h => ?_) (fun cdv B outer s H vs Q E hr h => ?_)
  · obtain ⟨rfl, _⟩ := h
    rfl
  · obtain ⟨rfl, k⟩ := h
    refine ⟨_, pss_one (ps_ret (pe_cd D1 hr (pa_cons (pe_op op_rep (pe_lst (pa_cons pe_int pa_nil)) (pk T.i5)) (pa_cons (pe_lst pa_nil) pa_nil)))), ?_⟩
    refine ⟨(by show 1 ≤ sizeLine; decide), fun l hl => ?_⟩
    refine ⟨l, 3, _, rfl, rfl, upd_same, by decide, by decide, (by show 1 * 3 ≤ sizeLine; decide), fun y hy => ?_⟩
    refine ⟨(by show 0 ≤ sizeLine; decide), fun z hz => ?_⟩
    intro q dq nq ndq neq
    refine ⟨q, y, z, dq, rfl, upd_same, rfl, ?_⟩
    have s3 : Same H (upd (upd (upd H l (.lst [V.int 0])) y (.lst (nv [0, 0, 0]))) z (.lst (nv []))) := ((Same.new hl).add hy).add hz
    have hL : (upd (upd (upd H l (.lst [V.int 0])) y (.lst (nv [0, 0, 0]))) z (.lst (nv []))) y = some (.lst (nv [0, 0, 0])) := at_new upd_same hz
    obtain ⟨m1, m2⟩ := deal_made (A := A) hL upd_same nq ndq neq (o := .ins A.cL dq [])
    exact k _ q (s3.trans m2) (s3.free nq) m1
/-! ### next_dealings -/
def S3 (ws p : List Nat) : List Nat := [Mx.ps ws p 1, Mx.ps ws p 2, Mx.ps ws p 3]
/-- dealings that wait -/
structure DealsAt (A : Ad) (H : Hp) (ws : List Nat) (as : List Addr) (l : List (List Nat)) : Prop where
  len : as.length = l.length
  at_ : ∀ (i : Nat) (a : Addr) (p : List Nat), as[i]? = some a → l[i]? = some p → DealAt A H a (S3 ws p) p
theorem DealsAt.same {H H' : Hp} {ws : List Nat} {as : List Addr} {l : List (List Nat)} (h : DealsAt A H ws as l) (s : Same H H') : DealsAt A H' ws as l := ⟨h.len, fun i a p e1 e2 => (h.at_ i a p e1 e2).same s⟩
theorem DealsAt.app {H : Hp} {ws : List Nat} {as bs : List Addr} {l m : List (List Nat)} (h : DealsAt A H ws as l) (g : DealsAt A H ws bs m) : DealsAt A H ws (as ++ bs) (l ++ m) := by
  refine ⟨by simp [h.len, g.len], fun i b p h1 h2 => ?_⟩
  by_cases hi : i < as.length
  · rw [List.getElem?_append_left hi] at h1
    rw [List.getElem?_append_left (by rw [← h.len]; exact hi)] at h2
    exact h.at_ i b p h1 h2
  · rw [List.getElem?_append_right (by omega)] at h1
    rw [List.getElem?_append_right (by rw [← h.len]; omega), ← h.len] at h2
    exact g.at_ _ b p h1 h2
theorem DealsAt.nil {H : Hp} {ws : List Nat} : DealsAt A H ws [] [] := ⟨rfl, fun i a p e _ => by simp at e⟩
theorem DealsAt.one {H : Hp} {ws : List Nat} {a : Addr} {p : List Nat} (h : DealAt A H a (S3 ws p) p) : DealsAt A H ws [a] [p] := ⟨rfl, fun i b q e1 e2 => by
  cases i with
  | zero => cases e1; cases e2; exact h
  | succ n => simp at e1⟩
theorem DealsAt.left {H : Hp} {ws : List Nat} {as bs : List Addr} {l m : List (List Nat)} (h : DealsAt A H ws (as ++ bs) (l ++ m)) (hl : as.length = l.length) : DealsAt A H ws as l :=
  ⟨hl, fun i a p h1 h2 => h.at_ i a p (by rw [List.getElem?_append_left (List.getElem?_eq_some_iff.mp h1).1]; exact h1) (by rw [List.getElem?_append_left (List.getElem?_eq_some_iff.mp h2).1]; exact h2)⟩
theorem refs_ints {as : List Addr} {l : List Nat} (h : as ≠ [] ∨ l ≠ []) : (HO.lst (as.map V.ref)) ≠ HO.lst (nv l) := by
  intro z
  injection z with z
  cases as with
  | nil =>
    cases l with
    | nil => simp at h
    | cons y l => exact absurd z (by simp [nv])
  | cons a as =>
    cases l with
    | nil => exact absurd z (by simp [nv])
    | cons y l =>
      rw [List.map_cons] at z
      unfold nv at z
      rw [List.map_cons] at z
      injection z with z1 _
      cases z1
/-- a list of refs is written: a dealing stays -/
theorem DealAt.put {H : Hp} {a t : Addr} {S p : List Nat} {as : List Addr} {o : HO} (h : DealAt A H a S p) (ht : H t = some (.lst (as.map V.ref))) (hS : S ≠ []) (hp : as ≠ [] ∨ p ≠ []) : DealAt A (upd H t o) a S p := by
  obtain ⟨dx, s, f, h1, h2, h3⟩ := h
  refine ⟨dx, s, f, ?_, ?_, ?_⟩
  · rw [upd_ne (ne_of h1 ht (by intro z; cases z))]; exact h1
  · rw [upd_ne (fun z => by rw [z, ht] at h2; exact refs_ints (.inr hS) (Option.some.inj h2))]; exact h2
  · rw [upd_ne (fun z => by rw [z, ht] at h3; exact refs_ints hp (Option.some.inj h3))]; exact h3
theorem S3_ne (ws p : List Nat) : S3 ws p ≠ [] := by simp [S3]
theorem DealsAt.put {H : Hp} {ws : List Nat} {bs as : List Addr} {l : List (List Nat)} {t : Addr} {o : HO} (h : DealsAt A H ws bs l) (ht : H t = some (.lst (as.map V.ref))) (hp : as ≠ [] ∨ ∀ p ∈ l, p ≠ []) : DealsAt A (upd H t o) ws bs l :=
  ⟨h.len, fun i a p e1 e2 => (h.at_ i a p e1 e2).put ht (S3_ne ws p) (hp.imp id fun z => z p (List.mem_of_getElem? e2))⟩
def spNext (A : Ad) : Sp := fun vs H Q _ => ∃ (a : Addr) (ws p : List Nat) (wl : Nat), vs = [.ref a, .int wl] ∧ DealAt A H a (S3 ws p) p ∧ ws[p.length]? = some wl ∧ p.length ≤ 100 ∧
  ∀ (H' : Hp) (q : Addr) (as : List Addr), Same H H' → H q = none → H' q = some (.lst (as.map V.ref)) → DealsAt A H' ws as (Mx.nexts ws p).reverse → Q (.ref q) H'
theorem S3_at (ws p : List Nat) {x : Nat} (h1 : 1 ≤ x) (h3 : x ≤ 3) : (S3 ws p)[x - 1]? = some (Mx.ps ws p x) := by
  match x, h1, h3 with
  | 1, _, _ => rfl
  | 2, _, _ => rfl
  | 3, _, _ => rfl
  | x + 4, _, h => exact absurd h (by omega)
theorem S3_next {ws p : List Nat} {wl x : Nat} (h : ws[p.length]? = some wl) (h1 : 1 ≤ x) (h3 : x ≤ 3) : (S3 ws p).set (x - 1) (Mx.ps ws p x + wl) = S3 ws (p ++ [x]) := by
  unfold S3
  rw [Mx.ps_step h, Mx.ps_step h, Mx.ps_step h]
  match x, h1, h3 with
  | 1, _, _ => simp
  | 2, _, _ => simp
  | 3, _, _ => simp
  | x + 4, _, h => exact absurd h (by omega)
theorem S3_need (ws p : List Nat) {x : Nat} (h1 : 1 ≤ x) (h3 : x ≤ 3) : ((S3 ws p).take (x - 1)).any (fun y => y == Mx.ps ws p x) = Mx.needless ws p x := by
  match x, h1, h3 with
  | 1, _, _ => rfl
  | 2, _, _ => rw [Mx.need2]; simp [S3]
  | 3, _, _ => rw [Mx.need3]; simp [S3]
  | x + 4, _, h => exact absurd h (by omega)
def nxt (ws p : List Nat) (i : Nat) : List (List Nat) := ((([3, 2, 1] : List Nat).take i).filter fun x => !Mx.needless ws p x).map fun x => p ++ [x]
theorem nxt_step (ws p : List Nat) {i : Nat} (h : i < 3) : nxt ws p (i + 1) = nxt ws p i ++ (if Mx.needless ws p (3 - i) = true then [] else [p ++ [3 - i]]) := by
  unfold nxt
  match i, h with
  | 0, _ => cases hh : Mx.needless ws p 3 <;> simp [hh]
  | 1, _ => cases hh : Mx.needless ws p 2 <;> simp [hh, List.filter_cons] <;> split <;> simp
  | 2, _ => cases hh : Mx.needless ws p 1 <;> simp [hh, List.filter_cons] <;> split <;> split <;> simp
theorem nxt_end (ws p : List Nat) : nxt ws p 3 = (Mx.nexts ws p).reverse := by
  unfold nxt Mx.nexts
  rw [← List.map_reverse, ← List.filter_reverse]; rfl
theorem nxt_ne (ws p : List Nat) (i : Nat) : ∀ q ∈ nxt ws p i, q ≠ [] := fun q h => by
  obtain ⟨x, _, rfl⟩ := List.mem_map.mp h
  simp
theorem ok_next {f : Addr} {fd : FuncData} (F : Fun K "next_dealings" "next_dealings" s_next_dealings f fd) (T : Txt K mg A) (D1 : Md P w K mg base 1 A.cL "is_needless" ["self", "phase"] (spNeed A)) (D2 : Md P w K mg base 3 A.cL "with_load" ["self", "load", "phase"] (spWith A)) :
    FnOk P w K mg base CX0 4 f fd ["dealing", "load"] (spNext A) := by
  refine F.ok sc_next_dealings (fun vs H Q E h => ?_) (fun cdv B outer s H vs Q E hr h => ?_)
  · obtain ⟨a, ws, p, wl, rfl, _⟩ := h
    rfl
  · obtain ⟨a, ws, p, wl, rfl, hd, hw, hp, k⟩ := h
    have nd := sc_next_dealings.nd
    have hr1 : Room 1 _ := hr.mono (by decide)
    refine ⟨_, pss_cons (ps_set (i := 2) nd rfl (Or.inl rfl) (pe_lst pa_nil))
      (pss_cons (ps_for PassesOwn.never rfl (pi_range3 rfl T.b2 (pa_cons (pk T.i5) (pa_cons pe_int (pa_cons (pe_un un_neg pe_int) pa_nil)))) (pg_name (i := 3) nd rfl (Or.inl rfl))
        (pss_one (ps_if (pt_not (pt_val (pe_md D1 T.clL hr1 (pv 0) (pa_cons (pv 3) pa_nil))))
          (pss_one (ps_expr (pe_bm PySem.F.plainAttrs_list PySem.F.slot_list_append PySem.F.type_list_append mt_append (pv 2) (pa_cons (pe_md D2 T.clL hr (pv 0) (pa_cons (pv 1) (pa_cons (pv 3) pa_nil))) pa_nil)))) pss_nil)))
      (pss_one (ps_ret (pv 2)))), ?_⟩
    refine ⟨Nat.zero_le _, fun q hq => ?_⟩
    refine ⟨_, rfl, 3, 0, -1, 3, rfl, RgC.neg (i := 3) (j := 0) (by decide) (by decide) (by decide) (by decide), for_rangeC (fun i σ H' => ∃ v as, σ = [some (.ref a), some (.int wl), some (.ref q), v] ∧ Same H H' ∧ H' q = some (.lst (as.map V.ref)) ∧ DealsAt A H' ws as (nxt ws p i))
      ⟨none, [], rfl, Same.new hq, upd_same, DealsAt.nil⟩ ?_ ?_⟩
    · rintro i σ H' hi ⟨v, as, rfl, sm, hq', ds⟩
      have ei : ((3 : Int) + (i : Int) * (-1)) = ((3 - i : Nat) : Int) := by omega
      rw [ei]
      obtain ⟨dx, sa, fa, ha, hsa, hfa⟩ := hd
      have hd' : DealAt A H' a (S3 ws p) p := ⟨dx, sa, fa, sm _ _ ha, sm _ _ hsa, sm _ _ hfa⟩
      refine ⟨_, rfl, a, dx, _, rfl, sm _ _ ha, lfs_no (by decide) (by decide), _, rfl, a, _, _, 3 - i, _, rfl, hd', by omega, by omega, S3_at ws p (by omega) (by omega), fun H1 s1 => ⟨_, rfl, ?_⟩⟩
      rw [S3_need ws p (by omega) (by omega)]
      have hq1 : H1 q = some (.lst (as.map V.ref)) := s1 _ _ hq'
      have ds1 := ds.same s1
      have sm1 := sm.trans s1
      refine ifB (fun z => ?_) (fun z => ?_)
      · have z : Mx.needless ws p (3 - i) = false := by simpa using z
        refine ⟨_, rfl, .inl ⟨rfl, _, SqL.of hq1⟩, _, rfl, a, dx, _, rfl, sm1 _ _ ha, lfs_no (by decide) (by decide), _, rfl, _, rfl, a, _, _, wl, 3 - i, _, rfl, ⟨dx, sa, fa, sm1 _ _ ha, sm1 _ _ hsa, sm1 _ _ hfa⟩, by omega, S3_at ws p (by omega) (by omega), rfl, hp, fun H2 x s2 nx hx => ?_⟩
        refine ⟨q, _, _, rfl, rfl, s2 _ _ hq1, ?_, _, as ++ [x], rfl, (sm1.trans s2).put hq, ?_, ?_⟩
        · rw [List.length_map, ds1.len, szl]
          unfold nxt
          rw [List.length_map]
          have h1 := List.length_filter_le (fun x => !Mx.needless ws p x) (([3, 2, 1] : List Nat).take i)
          rw [List.length_take] at h1
          simp at h1
          omega
        · rw [upd_same, List.map_append]; rfl
        · rw [nxt_step ws p hi, z, if_neg (by decide)]
          rw [S3_next hw (by omega) (by omega)] at hx
          refine DealsAt.app ((ds1.same s2).put (s2 _ _ hq1) (.inr (nxt_ne ws p i))) (DealsAt.one (hx.put (s2 _ _ hq1) (S3_ne _ _) (.inr (by simp))))
      · have z : Mx.needless ws p (3 - i) = true := by simpa using z
        refine ⟨_, as, rfl, sm1, hq1, ?_⟩
        rw [nxt_step ws p hi, z, if_pos rfl, List.append_nil]
        exact ds1
    · rintro σ H' ⟨v, as, rfl, sm, hq', ds⟩
      refine ⟨_, rfl, ?_⟩
      rw [nxt_end] at ds
      exact k H' q as sm hq hq' ds
end
end Sl
end
section
set_option Elab.async false
set_option linter.all false
set_option maxRecDepth 100000
namespace Sl
open PySem PySem.Spec PyProof.Rows L2 TL
def zs (l : List Nat) : List Int := l.map fun (n : Nat) => (n : Int)
theorem nv_zs (l : List Nat) : nv l = (zs l).map V.int := by unfold nv zs; rw [List.map_map]; rfl
theorem zs_sum : ∀ l : List Nat, (zs l).sum = (l.sum : Nat)
  | [] => rfl
  | a :: l => by
    show (((a : Nat) : Int) :: zs l).sum = _
    rw [List.sum_cons, zs_sum l, List.sum_cons]; omega
theorem fold_max_ge : ∀ (ws : List Nat) (a : Nat), a ≤ ws.foldl max a ∧ ∀ w ∈ ws, w ≤ ws.foldl max a
  | [], a => ⟨Nat.le_refl _, fun _ h => by simp at h⟩
  | y :: ws, a => by
    obtain ⟨h1, h2⟩ := fold_max_ge ws (max a y)
    rw [List.foldl_cons]
    refine ⟨by omega, fun w hw => ?_⟩
    rcases List.mem_cons.mp hw with rfl | hw
    · omega
    · exact h2 w hw
theorem fold_max_in : ∀ (ws : List Nat) (a : Nat), ws.foldl max a = a ∨ ws.foldl max a ∈ ws
  | [], a => .inl rfl
  | y :: ws, a => by
    rw [List.foldl_cons]
    rcases fold_max_in ws (max a y) with h | h
    · rw [h]
      by_cases q : a ≤ y
      · exact .inr (by rw [Nat.max_eq_right q]; exact List.mem_cons_self)
      · exact .inl (Nat.max_eq_left (by omega))
    · exact .inr (List.mem_cons_of_mem _ h)
theorem enough_is {ws : List Nat} {m : Int} (hm : m ∈ (((ws.sum + 2) / 3 : Nat) : Int) :: zs ws) (hb : ∀ y ∈ (((ws.sum + 2) / 3 : Nat) : Int) :: zs ws, y ≤ m) : m = (Mx.enough ws : Nat) := by
  have h1 := hb _ List.mem_cons_self
  have h2 : ∀ w ∈ ws, ((w : Nat) : Int) ≤ m := fun w hw => hb _ (List.mem_cons_of_mem _ (List.mem_map.mpr ⟨w, hw, rfl⟩))
  obtain ⟨f1, f2⟩ := fold_max_ge ws 0
  have f3 := fold_max_in ws 0
  unfold Mx.enough
  rcases List.mem_cons.mp hm with e | e
  · subst e
    rcases f3 with f3 | f3
    · rw [f3]; omega
    · have := h2 _ f3; omega
  · obtain ⟨w, hw, rfl⟩ := List.mem_map.mp e
    have := f2 w hw
    rcases f3 with f3 | f3
    · omega
    · have := h2 _ f3; omega
section
variable {P : Program} {w : World} {K : PySem.W.Frag} {mg : Str → Option Value} {base : Heap} {A : Ad}
def spThink : Sp := fun vs H Q _ => ∃ (a : Addr) (ws : List Nat), vs = [.ref a] ∧ H a = some (.lst (nv ws)) ∧ ws.length ≤ 100 ∧ ∀ H', Same H H' → Q (.int (Mx.enough ws : Nat)) H'
theorem ok_think {f : Addr} {fd : FuncData} (F : Fun K "least_thinkable" "least_thinkable" s_least_thinkable f fd) (T : Txt K mg A) : FnOk P w K mg base CX0 1 f fd ["loads"] spThink := by
  refine F.ok sc_least_thinkable (fun vs H Q E h => ?_) (fun cdv B outer s H vs Q E hr h => ?_)
  · obtain ⟨a, ws, rfl, _⟩ := h
    rfl
  · obtain ⟨a, ws, rfl, ha, hl, k⟩ := h
    have nd := sc_least_thinkable.nd
    refine ⟨_, pss_cons (ps_set (i := 1) nd rfl (Or.inl rfl) (pe_op op_fdiv (pe_op op_sub (pe_op op_add (pe_callB (cr_sum rfl) rfl T.b7 PyProof.Rows.boot_sum (pa_cons (pv 0) pa_nil)) (pk T.i5)) pe_int) (pk T.i5)))
      (pss_one (ps_ret (pe_callB (cr_max rfl) rfl T.b8 PyProof.Rows.boot_max (pa_cons (pe_op op_cat (pe_lst (pa_cons (pv 1) pa_nil)) (pv 0)) pa_nil)))), ?_⟩
    have hz : SqL K H a ((zs ws).map V.int) := by rw [← nv_zs]; exact SqL.of ha
    refine ⟨_, rfl, a, zs ws, rfl, hz, _, _, rfl, rfl, _, _, rfl, rfl, _, _, rfl, rfl, ⟨by decide, by decide⟩, ?_⟩
    have e : ((zs ws).sum + 3 - 1) / 3 = (((ws.sum + 2) / 3 : Nat) : Int) := by rw [zs_sum]; omega
    dsimp only
    rw [e]
    refine ⟨_, rfl, (by show 1 ≤ sizeLine; decide), fun l hl' => ?_⟩
    refine ⟨_, rfl, l, a, _, _, rfl, rfl, upd_same, at_new ha hl', (by rw [nv_len, szl]; show 1 + ws.length ≤ _; omega), fun y hy => ?_⟩
    refine ⟨y, (((ws.sum + 2) / 3 : Nat) : Int) :: zs ws, rfl, SqL.of ?_, by simp, fun m hm hb => ?_⟩
    · rw [upd_same, nv_zs]; rfl
    · rw [enough_is hm hb]
      exact k _ ((Same.new hl').add hy)
/-! ### deal_evenly -/
theorem top_is {ws p : List Nat} {m : Int} (hm : m ∈ zs (S3 ws p)) (hb : ∀ y ∈ zs (S3 ws p), y ≤ m) : m = (Mx.top3 ws p : Nat) := by
  have b1 := hb (Mx.ps ws p 1 : Nat) (by simp [zs, S3])
  have b2 := hb (Mx.ps ws p 2 : Nat) (by simp [zs, S3])
  have b3 := hb (Mx.ps ws p 3 : Nat) (by simp [zs, S3])
  have : m = (Mx.ps ws p 1 : Nat) ∨ m = (Mx.ps ws p 2 : Nat) ∨ m = (Mx.ps ws p 3 : Nat) := by simpa [zs, S3] using hm
  unfold Mx.top3
  omega
def spDeal (A : Ad) : Sp := fun vs H Q _ => ∃ (a : Addr) (ws : List Nat), vs = [.ref a] ∧ H a = some (.lst (nv ws)) ∧ ws.length ≤ 9 ∧
  ∀ (H' : Hp) (q : Addr), Same H H' → DealAt A H' q (S3 ws (Sg.evenly ws).2) (Sg.evenly ws).2 → Mx.top3 ws (Sg.evenly ws).2 = (Sg.evenly ws).1 → Q (.ref q) H'
/-- what the search has found -/
def BestAt (A : Ad) (H : Hp) (ws : List Nat) (v : V) (b : Mx.Best) : Prop := match b.2 with
  | none => v = .non
  | some p => ∃ q, v = .ref q ∧ DealAt A H q (S3 ws p) p ∧ b.1 = Mx.top3 ws p ∧ p.length = ws.length
theorem BestAt.same {H H' : Hp} {ws : List Nat} {v : V} {b : Mx.Best} (h : BestAt A H ws v b) (s : Same H H') : BestAt A H' ws v b := by
  obtain ⟨n, o⟩ := b
  cases o with
  | none => exact h
  | some p =>
    obtain ⟨q, h1, h2, h3⟩ := h
    exact ⟨q, h1, h2.same s, h3⟩
theorem BestAt.put {H : Hp} {ws : List Nat} {v : V} {b : Mx.Best} {t : Addr} {as : List Addr} {o : HO} (h : BestAt A H ws v b) (ht : H t = some (.lst (as.map V.ref))) (hp : as ≠ [] ∨ ws ≠ []) : BestAt A (upd H t o) ws v b := by
  obtain ⟨n, o'⟩ := b
  cases o' with
  | none => exact h
  | some p =>
    obtain ⟨q, h1, h2, h3, h4⟩ := h
    refine ⟨q, h1, h2.put ht (S3_ne _ _) (hp.imp id fun z y => z ?_), h3, h4⟩
    rw [y] at h4
    exact List.length_eq_zero_iff.mp h4.symm
theorem ok_deal {f : Addr} {fd : FuncData} (F : Fun K "deal_evenly" "deal_evenly" s_deal_evenly f fd) (T : Txt K mg A) (D1 : Dn P w K mg base 1 "least_thinkable" ["loads"] spThink) (D2 : Dn P w K mg base 3 "no_loads_dealt" [] (spNone A))
    (D3 : Dn P w K mg base 4 "next_dealings" ["dealing", "load"] (spNext A)) : FnOk P w K mg base CX0 5 f fd ["loads"] (spDeal A) := by
  refine F.ok sc_deal_evenly (fun vs H Q E h => ?_) (fun cdv B outer s H vs Q E hr h => ?_)
  · obtain ⟨a, ws, rfl, _⟩ := h
    rfl
  · obtain ⟨a, ws, rfl, ha, hl, k⟩ := h
    have nd := sc_deal_evenly.nd
    have hr1 : Room 1 _ := hr.mono (by decide)
    have hr3 : Room 3 _ := hr.mono (by decide)
    refine ⟨_, pss_cons (ps_set (i := 1) nd rfl (Or.inl rfl) (pe_dn D1 hr1 (pa_cons (pv 0) pa_nil)))
      (pss_cons (ps_set (i := 2) nd rfl (Or.inl rfl) pe_non)
      (pss_cons (ps_set (i := 3) nd rfl (Or.inl rfl) (pe_op op_add (pe_callB (cr_sum rfl) rfl T.b7 PyProof.Rows.boot_sum (pa_cons (pv 0) pa_nil)) pe_int))
      (pss_cons (ps_set (i := 4) nd rfl (Or.inl rfl) (pe_lst (pa_cons (pe_dn0 D2 hr3) pa_nil)))
      (pss_cons (ps_while PassesOwn.never (PW.pt (pw_and (pt_cmpR op_gt (pe_len T.b1 (pv 4)) pe_int (nomark _)) (pw_and1 (pt_cmpR op_gt (pv 3) (pv 1) (nomark _)))))
        (pss_cons (ps_set (i := 5) nd rfl (Or.inl rfl) (pe_bm0 PySem.F.plainAttrs_list PySem.F.slot_list_pop PySem.F.type_list_pop mt_pop (pv 4)))
        (pss_cons (ps_if (pt_cmpR op_ge (pe_callB (cr_max rfl) rfl T.b8 PyProof.Rows.boot_max (pa_cons (pe_fld (pv 5) rfl) pa_nil)) (pv 3) (nomark _)) (pss_one ps_continue) pss_nil)
        (pss_cons (ps_set (i := 6) nd rfl (Or.inl rfl) (pe_len T.b1 (pe_fld (pv 5) rfl)))
        (pss_one (ps_if (pt_cmpR op_eq (pv 6) (pe_len T.b1 (pv 0)) (nomark _))
          (pss_cons (ps_set (i := 2) nd rfl (Or.inl rfl) (pv 5)) (pss_one (ps_set (i := 3) nd rfl (Or.inl rfl) (pe_callB (cr_max rfl) rfl T.b8 PyProof.Rows.boot_max (pa_cons (pe_fld (pv 5) rfl) pa_nil)))))
          (pss_one (ps_expr (pe_bm PySem.F.plainAttrs_list PySem.F.slot_list_extend PySem.F.type_list_extend mt_extend (pv 4) (pa_cons (pe_dn D3 hr (pa_cons (pv 5) (pa_cons (pe_ix ix_list (pv 0) (pv 6) (fun _ _ => rfl)) pa_nil))) pa_nil))))))))))
      (pss_one (ps_ret (pv 2))))))), ?_⟩
    refine ⟨_, rfl, a, ws, rfl, ha, by omega, fun H1 s1 => ?_⟩
    have hz : ∀ {H'}, Same H H' → SqL K H' a ((zs ws).map V.int) := fun s => by rw [← nv_zs]; exact SqL.of (s _ _ ha)
    refine ⟨_, rfl, a, zs ws, rfl, hz s1, _, _, rfl, rfl, ?_⟩
    refine ⟨rfl, fun H2 d0 s2 nd0 hd0 => ⟨(by show 1 ≤ sizeLine; decide), fun wt hwt => ?_⟩⟩
    have s12 : Same H H2 := s1.trans s2
    have e0 : (zs ws).sum + 1 = ((ws.sum + 1 : Nat) : Int) := by rw [zs_sum]; omega
    have p0 : ∀ x, Mx.ps ws [] x = 0 := fun x => by unfold Mx.ps; rw [Mx.sumOn_nil']
    refine ⟨fun m σ H' => ∃ (as : List Addr) (st : List (List Nat)) (b : Mx.Best) (bv : V) (v5 v6 : Option V), σ = [some (.ref a), some (.int (Mx.enough ws : Nat)), some bv, some (.int (b.1 : Nat)), some (.ref wt), v5, v6] ∧ Same H H' ∧
        H' wt = some (.lst (as.map V.ref)) ∧ DealsAt A H' ws as st.reverse ∧ (∀ p ∈ st, Mx.Ok1 ws p) ∧ Mx.scan ws b (Mx.pend ws.length st) = Mx.due ws ∧ BestAt A H' ws bv b ∧ m = Mx.wt ws.length st ∧ m ≤ 262144,
      ⟨Mx.wt ws.length [[]], [d0], [[]], (ws.sum + 1, none), .non, none, none, ?_, s12.add hwt, upd_same, ?_, ?_, Mx.due_start ws, rfl, rfl, ?_⟩, ?_⟩
    · show [some (V.ref a), some (V.int (Mx.enough ws : Nat)), some V.non, some (V.int ((zs ws).sum + 1)), some (V.ref wt), none, none] = _
      rw [e0]
    · refine DealsAt.one ?_
      have : S3 ws [] = [0, 0, 0] := by unfold S3; rw [p0, p0, p0]
      rw [this]
      exact hd0.same (Same.new hwt)
    · intro p hp
      simp at hp
      subst hp
      exact ⟨Nat.zero_le _, fun _ h => by simp at h⟩
    · show 4 ^ (ws.length - 0) + 0 ≤ 262144
      rw [Nat.sub_zero, Nat.add_zero]
      exact Nat.le_trans (Nat.pow_le_pow_right (by decide) hl) (by decide)
    · rintro m σ H' ⟨as, st, b, bv, v5, v6, rfl, sm, hw, ds, oks, due, best, rfl, hm⟩
      have fin : st = [] ∨ b.1 ≤ Mx.enough ws → Q bv H' := fun h => by
        rw [Mx.due_end oks h] at due
        subst due
        obtain ⟨q, rfl, h2, h3, _⟩ := best
        exact k H' q sm h2 h3.symm
      have ln : as.length = st.length := by rw [ds.len, List.length_reverse]
      refine ⟨_, rfl, wt, _, rfl, .inl (SqL.of hw), _, _, rfl, rfl, _, rfl, ifB (fun z => ⟨_, rfl, _, rfl, _, _, rfl, rfl, _, rfl, ifB (fun z2 => ?_) (fun z2 => ?_)⟩) (fun z => iteF ?_)⟩
      · -- a turn
        rw [List.length_map] at z
        have z := of_decide_eq_true z
        have z2 := of_decide_eq_true z2
        obtain ⟨p, st, rfl⟩ : ∃ p r, st = p :: r := by
          cases st with
          | nil => simp at ln; subst ln; simp at z
          | cons p r => exact ⟨p, r, rfl⟩
        obtain ⟨as, d, rfl⟩ : ∃ l d, as = l ++ [d] := by
          have : as ≠ [] := by intro q; subst q; simp at z
          exact ⟨as.dropLast, as.getLast this, (List.dropLast_concat_getLast this).symm⟩
        have lr : as.length = st.reverse.length := by simp at ln; simp [ln]
        rw [List.reverse_cons] at ds
        have dD : DealAt A H' d (S3 ws p) p := ds.at_ as.length d p (by simp) (by rw [lr]; simp)
        have dR : DealsAt A H' ws as st.reverse := ds.left lr
        have op := oks p List.mem_cons_self
        have okr : ∀ q ∈ st, Mx.Ok1 ws q := fun q hq => oks q (List.mem_cons_of_mem _ hq)
        have nonempty : (as ++ [d]) ≠ [] ∨ p ≠ [] := .inl (by simp)
        have h1 : DealAt A (upd H' wt (.lst (as.map V.ref))) d (S3 ws p) p := dD.put hw (S3_ne _ _) (.inl (by simp))
        have h2 : DealsAt A (upd H' wt (.lst (as.map V.ref))) ws as st.reverse := dR.put hw (.inl (by simp))
        have h3 : BestAt A (upd H' wt (.lst (as.map V.ref))) ws bv b := best.put hw (.inl (by simp))
        have nH : H wt = none := s12.free hwt
        have sm1 : Same H (upd H' wt (.lst (as.map V.ref))) := sm.put nH
        have wlt : Mx.wt ws.length st < Mx.wt ws.length (p :: st) := Mx.wt_pos _ _ _
        refine ⟨fun σ' H'' => ∃ (as : List Addr) (st' : List (List Nat)) (b : Mx.Best) (bv : V) (v5 v6 : Option V), σ' = [some (.ref a), some (.int (Mx.enough ws : Nat)), some bv, some (.int (b.1 : Nat)), some (.ref wt), v5, v6] ∧ Same H H'' ∧
          H'' wt = some (.lst (as.map V.ref)) ∧ DealsAt A H'' ws as st'.reverse ∧ (∀ p ∈ st', Mx.Ok1 ws p) ∧ Mx.scan ws b (Mx.pend ws.length st') = Mx.due ws ∧ BestAt A H'' ws bv b ∧ Mx.wt ws.length st' < Mx.wt ws.length (p :: st), ?_, ?_⟩
        · rintro σ' H'' ⟨as, st', b, bv, v5, v6, e1, e2, e3, e4, e5, e6, e7, e8⟩
          exact ⟨_, e8, as, st', b, bv, v5, v6, e1, e2, e3, e4, e5, e6, e7, rfl, by omega⟩
        obtain ⟨dx, sa, fa, g1, g2, g3⟩ := h1
        have gz : SqL K (upd H' wt (.lst (as.map V.ref))) sa ((zs (S3 ws p)).map V.int) := by rw [← nv_zs]; exact SqL.of g2
        refine ⟨_, rfl, .inl ⟨rfl, _, SqL.of hw⟩, wt, _, V.ref d, rfl, rfl, hw, (by simp), ?_⟩
        rw [List.map_append, List.map_cons, List.map_nil, List.dropLast_concat]
        refine ⟨_, rfl, d, _, dx, _, _, rfl, g1, T.clL, T.nL1, lfs1 _ _, sa, zs (S3 ws p), rfl, gz, by simp [zs, S3], fun mm hm1 hm2 => ?_⟩
        have em := top_is hm1 hm2
        subst em
        refine ⟨_, rfl, _, _, rfl, rfl, _, rfl, ifB (fun y => ?_) (fun y => ?_)⟩
        · -- continue
          have y := of_decide_eq_true y
          exact ⟨as, st, b, bv, _, v6, rfl, sm1, upd_same, h2, okr, (Mx.due_over op (by omega)).symm.trans due, h3, wlt⟩
        · have y := of_decide_eq_false y
          refine ⟨_, rfl, d, _, dx, _, _, rfl, g1, T.clL, T.nL2, lfs2 _ _, fa, _, rfl, .inl (SqL.of g3), ?_⟩
          refine ⟨_, rfl, _, rfl, a, _, rfl, .inl (SqL.of (sm1 _ _ ha)), rfl, _, rfl, ifB (fun x => ?_) (fun x => ?_)⟩
          · -- all are dealt
            rw [nv_len, nv_len] at x
            have x : p.length = ws.length := by
              have x := V.int.inj (of_decide_eq_true x)
              omega
            refine ⟨_, rfl, _, rfl, d, _, dx, _, _, rfl, g1, T.clL, T.nL1, lfs1 _ _, sa, zs (S3 ws p), rfl, gz, by simp [zs, S3], fun mm hm1 hm2 => ?_⟩
            have em := top_is hm1 hm2
            subst em
            exact ⟨as, st, (Mx.top3 ws p, some p), V.ref d, _, _, rfl, sm1, upd_same, h2, okr, (Mx.due_full x (by omega)).symm.trans due, ⟨d, rfl, ⟨dx, sa, fa, g1, g2, g3⟩, rfl, x⟩, wlt⟩
          · rw [nv_len, nv_len] at x
            have x : p.length ≠ ws.length := fun z => by
              have x := of_decide_eq_false x
              exact x (by rw [z])
            have lt : p.length < ws.length := by have := op.len; omega
            obtain ⟨wl, hwl⟩ : ∃ wl, ws[p.length]? = some wl := ⟨ws[p.length], List.getElem?_eq_getElem lt⟩
            refine ⟨_, rfl, .inl ⟨rfl, _, SqL.of upd_same⟩, _, rfl, _, rfl, _, rfl, a, _, _, _, rfl, rfl, SqL.of (sm1 _ _ ha), ?_, d, ws, p, wl, rfl, ⟨dx, sa, fa, g1, g2, g3⟩, hwl, by omega, fun H3 q bs s3 nq hq hn => ?_⟩
            · exact at_of (j := p.length) (by rw [nv_len]) (nv_at hwl)
            · have hw3 : H3 wt = some (.lst (as.map V.ref)) := s3 _ _ upd_same
              have nwt := Mx.wt_next lt st
              have nok := Mx.next_ok op lt
              refine ⟨wt, q, _, _, rfl, rfl, hw3, hq, ?_, ?_⟩
              · rw [List.length_map, List.length_map, hn.len, lr, szl, List.length_reverse, List.length_reverse]
                have h1 := Mx.wt_len ws.length (Mx.nexts ws p ++ st)
                rw [List.length_append] at h1
                omega
              · have wne : ws ≠ [] := by intro z; subst z; simp at lt
                refine ⟨as ++ bs, Mx.nexts ws p ++ st, b, bv, _, _, rfl, (sm1.trans s3).put nH, ?_, ?_, fun p' hp' => ?_, (Mx.due_next op.inp lt).symm.trans due, (h3.same s3).put hw3 (.inr wne), nwt⟩
                · rw [upd_same, List.map_append]
                · rw [List.reverse_append]
                  have n2 : ∀ p' ∈ (Mx.nexts ws p).reverse, p' ≠ [] := fun p' hp' => by
                    have := (nok p' (List.mem_reverse.mp hp')).2
                    intro z; subst z; simp at this
                  refine DealsAt.app ?_ (hn.put hw3 (.inr n2))
                  by_cases ae : as = []
                  · subst ae
                    have : st.reverse = [] := List.length_eq_zero_iff.mp (by rw [← lr]; rfl)
                    rw [this]
                    exact DealsAt.nil
                  · exact (h2.same s3).put hw3 (.inl ae)
                · rcases List.mem_append.mp hp' with hp' | hp'
                  · exact (nok p' hp').1
                  · exact okr p' hp'
      · have z2 := of_decide_eq_false z2
        exact ⟨_, rfl, fin (.inr (by omega))⟩
      · rw [List.length_map] at z
        have z := of_decide_eq_false z
        exact ⟨_, rfl, fin (.inl (List.length_eq_zero_iff.mp (by omega)))⟩
end
end Sl
end
section
set_option Elab.async false
set_option linter.all false
set_option maxRecDepth 100000
namespace Sl
open PySem PySem.Spec PyProof.Rows L2 TL
section
variable {P : Program} {w : World} {K : PySem.W.Frag} {mg : Str → Option Value} {base : Heap} {A : Ad}
/-- a def that an error may leave -/
theorem fun_okX {CX : CXT} {x qual : Str} {st : Stmt} {f : Addr} {fd : FuncData} {N ps : List Str} {k : Nat} {sp : Sp} (F : Fun K x qual st f fd) (S : FnScope N ps (defScope st)) (len : ∀ vs H Q E, sp vs H Q E → vs.length = ps.length)
    (hbody : ∀ (cdv : Value) (B : Around) (outer : List Env) (s : Shared) (H : Hp) (vs : List V) (Q : VK) (E : XK), Room k (B.deeper (envOfC qual (defScope st) s.heap.objs.size f cdv)) → sp vs H Q E →
      ∃ t, PSs (cxOf CX P w K mg base N qual (defScope st) f cdv B outer s H E) (defBody st) t ∧ t { nx := fun _ H' => Q .non H', rt := Q } (start N vs) H) : FnOk P w K mg base CX (k + 1) f fd ps sp := by
  obtain ⟨oc, od, kV, doc, pm, an, cdv, ct, osl, rfl, lk, hcd⟩ := F.ex
  exact fn_of lk hcd S len fun B outer s H vs Q E hr hsp => hbody cdv B outer s H vs Q E hr hsp
def spRead (K : PySem.W.Frag) (A : Ad) : Sp := fun vs H Q E => ∃ (a : Addr) (t : Sg.Bytes), vs = [.ref a] ∧ SqL K H a (bv t) ∧ t.length ≤ 80000 ∧
  (∀ (H' : Hp) (q : Addr) (as : List Addr) (ds : Sg.Patch), Same H H' → H q = none → Sg.readPatch t = .ok ds → H' q = some (.lst (as.map V.ref)) → DimsAt A H' as ds → Q (.ref q) H') ∧
  (∀ (H' : Hp) (dx : Addr) (n y : Nat), Same H H' → Sg.readPatch t = .error (n, y) → FaultAt H' dx n y → E (.ref A.cT) (some dx) H')
def lastNo (ds : List Sg.Dimmer) : Nat := match ds.reverse with
  | [] => 0
  | d :: _ => d.number
theorem lastNo_snoc (ds : List Sg.Dimmer) (d : Sg.Dimmer) : lastNo (ds ++ [d]) = d.number := by unfold lastNo; rw [List.reverse_append]; rfl
theorem last_any {ds : List Sg.Dimmer} {d : Sg.Dimmer} (h : d.ok = true) : (ds.reverse.head?.any fun (x : Sg.Dimmer) => decide (d.number ≤ x.number)) = decide ((d.number : Int) ≤ (lastNo ds : Nat)) := by
  obtain ⟨p1, _⟩ := Mx.ok_parts h
  unfold lastNo
  cases ds.reverse with
  | nil =>
    show false = _
    rw [decide_eq_false (by show ¬ (d.number : Int) ≤ ((0 : Nat) : Int); omega)]
  | cons x r =>
    show decide (d.number ≤ x.number) = decide ((d.number : Int) ≤ (x.number : Nat))
    by_cases q : d.number ≤ x.number
    · rw [decide_eq_true q, decide_eq_true (by omega)]
    · rw [decide_eq_false q, decide_eq_false (by omega)]
theorem dims_len {t : Sg.Bytes} (h : t.length ≤ 80000) {ws : List Sg.Bytes} {w : Sg.Bytes} (e : Sg.split 10 t = ws ++ [w]) : ws.length ≤ 80000 := by
  have j := Mx.split_join 10 e
  have : ∀ l : List Sg.Bytes, l.length ≤ (l.flatMap fun v => v ++ [(10 : UInt8)]).length := by
    intro l
    induction l with
    | nil => simp
    | cons a l ih => rw [List.flatMap_cons, List.length_append, List.length_append, List.length_cons]; simp at ih ⊢; omega
  have h2 := this ws
  rw [j, List.length_append] at h
  omega
theorem lined_ne {ws : List Sg.Bytes} {w : Sg.Bytes} : ∀ v ∈ lined ws w, v ≠ [] := fun v h => by
  unfold lined at h
  rcases List.mem_append.mp h with h | h
  · obtain ⟨u, _, rfl⟩ := List.mem_map.mp h
    simp
  · split at h
    · simp at h
    · simp at h; subst h; assumption
theorem lined_at {ws : List Sg.Bytes} {w : Sg.Bytes} {i : Nat} (hi : i < ws.length) : (lined ws w)[i]? = some (ws[i] ++ [10]) := by
  unfold lined
  rw [List.getElem?_append_left (by rw [List.length_map]; exact hi), List.getElem?_map, List.getElem?_eq_getElem hi]; rfl
theorem lined_last {ws : List Sg.Bytes} {w : Sg.Bytes} (wn : w ≠ []) : (lined ws w)[ws.length]? = some w := by
  unfold lined
  rw [if_neg wn, List.getElem?_append_right (by rw [List.length_map]; exact Nat.le_refl _), List.length_map, Nat.sub_self]; rfl
theorem lined_len {ws : List Sg.Bytes} {w : Sg.Bytes} : (lined ws w).length = ws.length + (if w = [] then 0 else 1) := by
  unfold lined
  rw [List.length_append, List.length_map]
  split <;> rfl
theorem ok_read {f : Addr} {fd fdT : FuncData} (F : Fun K "read_patch" "read_patch" s_read_patch f fd) (T : Txt K mg A) (D1 : Dn P w K mg base 1 "lines_of" ["text"] (spLines K)) (D2 : Dn P w K mg base 3 "read_dimmer" ["line"] (spRDim K A))
    (G : FnOk P w K mg base CX0 1 A.fT fdT ["self", "line", "why"] (spTInit A)) (bT : Binds K fdT ["self", "line", "why"] []) : FnOk P w K mg base (CXF P w A.cT) 4 f fd ["text"] (spRead K A) := by
  refine fun_okX F sc_read_patch (fun vs H Q E h => ?_) (fun cdv B outer s H vs Q E hr h => ?_)
  · obtain ⟨a, t, rfl, _⟩ := h
    rfl
  · obtain ⟨a, t, rfl, hs, hl, kq, ke⟩ := h
    have nd := sc_read_patch.nd
    have hr1 : Room 1 _ := hr.mono (by decide)
    have hr2 : Room (1 + 1) _ := hr.mono (by decide)
    refine ⟨_, pss_cons (ps_set (i := 1) nd rfl (Or.inl rfl) (pe_lst pa_nil))
      (pss_cons (ps_set (i := 2) nd rfl (Or.inl rfl) pe_int)
      (pss_cons (ps_for passes_x rfl (pi_enum rfl T.b3 (pa_cons (pe_dn D1 hr1 (pa_cons (pv 0) pa_nil)) pa_nil)) (pg_tup rfl (pgs_cons (pg_name (i := 3) nd rfl (Or.inl rfl)) (pgs_cons (pg_name (i := 4) nd rfl (Or.inl rfl)) pgs_nil)))
        (pss_cons (ps_set (i := 5) nd rfl (Or.inl rfl) (pe_dn D2 hr (pa_cons (pv 4) pa_nil)))
        (pss_cons (ps_if (pt_cmp (pc_isN (pv 5))) (pss_one (ps_raiseX (EX := E) T.xT G hr2 rfl T.mT bT pass0 rfl rfl (fun pins σ H2 s2 y tt dx I hy hn q => xe_of I hy hn q) (pa_cons (pv 3) (pa_cons (pk T.i12) pa_nil)))) pss_nil)
        (pss_cons (ps_if (pt_cmpR op_le (pe_fld (pv 5) rfl) (pv 2) (nomark _)) (pss_one (ps_raiseX (EX := E) T.xT G hr2 rfl T.mT bT pass0 rfl rfl (fun pins σ H2 s2 y tt dx I hy hn q => xe_of I hy hn q) (pa_cons (pv 3) (pa_cons (pk T.i13) pa_nil)))) pss_nil)
        (pss_cons (ps_expr (pe_bm PySem.F.plainAttrs_list PySem.F.slot_list_append PySem.F.type_list_append mt_append (pv 1) (pa_cons (pv 5) pa_nil)))
        (pss_one (ps_set (i := 2) nd rfl (Or.inl rfl) (pe_fld (pv 5) rfl))))))))
      (pss_one (ps_ret (pv 1))))), ?_⟩
    obtain ⟨ws, w0, hsp⟩ := Mx.split_last 10 t
    have hwl := dims_len hl hsp
    refine ⟨Nat.zero_le _, fun q hq => ?_⟩
    have sq : Same H (upd H q (.lst [])) := Same.new hq
    refine ⟨_, rfl, a, t, ws, w0, rfl, sq.seq hs, by omega, hsp, fun H1 ls as1 s1 nls hls ra => ?_⟩
    have s01 := sq.trans s1
    have nql : ls ≠ q := fun z => by rw [z, upd_same] at nls; cases nls
    have nqa : q ∉ as1 := fun z => by
      obtain ⟨j, hj⟩ := List.mem_iff_getElem?.mp z
      have lj : j < (lined ws w0).length := by rw [← ra.len]; exact (List.getElem?_eq_some_iff.mp hj).1
      have hb := ra.at_ j q _ hj (List.getElem?_eq_getElem lj)
      rw [s1 _ _ upd_same] at hb
      have e : [] = bv ((lined ws w0)[j]) := HO.lst.inj (Option.some.inj hb)
      exact lined_ne _ (List.getElem_mem lj) (List.map_eq_nil_iff.mp e.symm)
    have eR : Sg.readPatch t = Sg.linesFrom 0 [] (ws ++ [w0]) := by unfold Sg.readPatch; rw [hsp]
    -- an error's end
    have fault : ∀ (H' : Hp) (n y : Nat), Same H H' → Sg.readPatch t = .error (n, y) → ∀ x tt, H' x = none →
        spTInit A (.ref x :: [V.int (n : Nat), V.int (y : Nat)]) (upd H' x (XO x A.cT tt none)) (fun v H2 => v = .non ∧ XQ A.cT E (.ref x) H2) E0 := fun H' n y sm er x tt nx => by
      refine ⟨x, tt, n, y, rfl, upd_same, fun H2 dx h1 ne fa keep => ⟨rfl, x, tt, dx, rfl, h1, ?_⟩⟩
      refine ke _ dx n y (fun b o e => ?_) er ?_
      · have hb : b ≠ x := ne_of_none (sm _ _ e) nx
        rw [drop_ne hb]
        exact keep b o (by rw [upd_ne hb]; exact sm _ _ e) hb
      · obtain ⟨fs, g1, g2, g3⟩ := fa.ex
        exact ⟨⟨fs, by rw [drop_ne ne]; exact g1, g2, g3⟩⟩
    refine ⟨ls, _, rfl, SqL.of hls, for_enum (K := K) (a := ls) (xs := as1.map V.ref) (fun i σ H' => ∃ (as : List Addr) (ds : List Sg.Dimmer) (v3 v4 v5 : Option V), σ = [some (.ref a), some (.ref q), some (.int (lastNo ds : Nat)), v3, v4, v5] ∧
        Same H H' ∧ RowsAt H' as1 (lined ws w0) ∧ H' ls = some (.lst (as1.map V.ref)) ∧ H' q = some (.lst (as.map V.ref)) ∧ DimsAt A H' as ds ∧ ds.length = i ∧ i ≤ ws.length ∧ Sg.linesFrom i ds.reverse ((ws.drop i) ++ [w0]) = Sg.readPatch t)
      ⟨[], [], none, none, none, rfl, s01, ra, hls, s1 _ _ upd_same, DimsAt.nil, rfl, Nat.zero_le _, eR.symm⟩ (fun i σ H' _ ⟨_, _, _, _, _, _, _, _, e, _⟩ => SqL.of e) ?_ ?_⟩
    · rintro i y σ H' tt hy ⟨as, ds, v3, v4, v5, rfl, sm, ra', hls', hq', dd, ld, li, hL⟩ htt
      obtain ⟨la, hla, rfl⟩ := ref_of hy
      have ni : i < (lined ws w0).length := by rw [← ra.len]; exact (List.getElem?_eq_some_iff.mp hla).1
      have st : Same H' (upd H' tt (.tup [.int ((i : Nat) : Int), .ref la])) := Same.new htt
      refine ⟨tt, _, rfl, SqT.of upd_same, rfl, _, _, rfl, _, _, rfl, rfl, ?_⟩
      by_cases hi : i < ws.length
      · -- a whole line
        have row := ra'.at_ i la _ hla (lined_at hi)
        have ed : ws.drop i = ws[i] :: ws.drop (i + 1) := List.drop_eq_getElem_cons hi
        have bl : (ws[i]).length ≤ 90000 := by
          have := split_len 10 t ws[i] (by rw [hsp]; exact List.mem_append_left _ (List.getElem_mem hi))
          omega
        rw [ed, List.cons_append, Mx.lines_step (by simp)] at hL
        refine ⟨_, rfl, la, ws[i], 10, rfl, SqL.of (st _ _ row), bl, fun H2 v s2 hv => ?_⟩
        have s2' := st.trans s2
        have sm2 := sm.trans s2'
        have hd10 : dimL ws[i] 10 = Sg.dimmerIn ws[i] := by unfold dimL; rw [if_pos rfl]
        rw [hd10] at hv
        cases hd : Sg.dimmerIn ws[i] with
        | none =>
          rw [hd] at hv hL
          have hv : v = .non := hv
          subst hv
          refine ⟨_, rfl, true, rfl, iteT ?_⟩
          refine ⟨_, rfl, (by show 2 ≤ sizeLine; decide), fun x tx nx => fault H2 i 1 sm2 hL.symm x tx nx⟩
        | some d =>
          rw [hd] at hv hL
          obtain ⟨x, rfl, dx, hx⟩ := hv
          have dok := Mx.dimmerIn_ok hd
          refine ⟨_, rfl, false, rfl, iteF ?_⟩
          refine ⟨_, rfl, x, _, dx, _, _, rfl, hx, T.clD, T.nD1, dfs1 _, _, rfl, _, _, rfl, rfl, _, rfl, ?_⟩
          rw [← last_any dok]
          have hL : (if (ds.reverse.head?.any fun (x : Sg.Dimmer) => decide (d.number ≤ x.number)) = true then Except.error (i, 2) else Sg.linesFrom (i + 1) (d :: ds.reverse) (ws.drop (i + 1) ++ [w0])) = Sg.readPatch t := hL
          refine ifB (fun z => ?_) (fun z => ?_)
          · rw [if_pos z] at hL
            exact ⟨_, rfl, (by show 2 ≤ sizeLine; decide), fun x tx nx => fault H2 i 2 sm2 hL.symm x tx nx⟩
          · rw [if_neg (by rw [z]; decide)] at hL
            have hq2 := s2' _ _ hq'
            refine ⟨_, rfl, .inl ⟨rfl, _, SqL.of hq2⟩, _, rfl, q, _, _, rfl, rfl, hq2, (by rw [List.length_map, dd.len, ld, szl]; omega), ?_⟩
            have kp : ∀ {b C dx fs}, H2 b = some (.ins C dx fs) → upd H2 q (.lst (as.map V.ref ++ [V.ref x])) b = some (.ins C dx fs) := fun e => by
              rw [upd_ne (ne_of e hq2 (by intro z; cases z))]; exact e
            refine ⟨_, rfl, x, _, dx, _, _, rfl, kp hx, T.clD, T.nD1, dfs1 _, ?_⟩
            refine ⟨as ++ [x], ds ++ [d], some (.int ((i : Nat) : Int)), some (.ref la), some (.ref x), ?_, sm2.put hq, ?_, ?_, ?_, ?_, by simp [ld], hi, ?_⟩
            · rw [lastNo_snoc]; rfl
            · exact RowsAt.put (ra'.same s2') nqa
            · rw [upd_ne nql]; exact s2' _ _ hls'
            · rw [upd_same, List.map_append]; rfl
            · exact DimsAt.snoc ⟨dd.len, fun j b e h1 h2 => by
                obtain ⟨dy, hy⟩ := dd.at_ j b e h1 h2
                exact ⟨dy, kp (s2' _ _ hy)⟩⟩ ⟨dx, kp hx⟩
            · rw [List.reverse_append]; exact hL
      · -- the text ends before its byte 10
        have hi : i = ws.length := by omega
        subst hi
        have wn : w0 ≠ [] := fun z => by rw [lined_len, if_pos z] at ni; omega
        have row := ra'.at_ ws.length la _ hla (lined_last wn)
        rw [List.drop_length, List.nil_append, Mx.lines_end, if_neg wn] at hL
        obtain ⟨l, c, rfl⟩ : ∃ l c, w0 = l ++ [c] := ⟨w0.dropLast, w0.getLast wn, (List.dropLast_concat_getLast wn).symm⟩
        have c10 : ¬ c = 10 := fun z => Mx.split_free 10 (l := t) (l ++ [c]) (by rw [hsp]; simp) (by rw [z]; simp)
        have bl : l.length ≤ 90000 := by
          have := split_len 10 t (l ++ [c]) (by rw [hsp]; simp)
          simp at this
          omega
        refine ⟨_, rfl, la, l, c, rfl, SqL.of (st _ _ row), bl, fun H2 v s2 hv => ?_⟩
        have hd10 : dimL l c = none := by unfold dimL; rw [if_neg c10]
        rw [hd10] at hv
        have hv : v = .non := hv
        subst hv
        refine ⟨_, rfl, true, rfl, iteT ?_⟩
        exact ⟨_, rfl, (by show 2 ≤ sizeLine; decide), fun x tx nx => fault H2 ws.length 1 (sm.trans (st.trans s2)) hL.symm x tx nx⟩
    · rintro σ H' ⟨as, ds, v3, v4, v5, rfl, sm, ra', hls', hq', dd, ld, li, hL⟩
      have ln : (as1.map V.ref).length = (lined ws w0).length := by rw [List.length_map, ra.len]
      rw [ln] at ld li hL
      have wn : w0 = [] := by
        by_cases z : w0 = []
        · exact z
        · rw [lined_len, if_neg z] at li; omega
      have le : (lined ws w0).length = ws.length := by rw [lined_len, if_pos wn]; rfl
      rw [le, List.drop_length, List.nil_append, Mx.lines_end, if_pos wn, List.reverse_reverse] at hL
      exact ⟨_, rfl, kq H' q as ds sm hq hL.symm hq' dd⟩
end
end Sl
end
section
set_option Elab.async false
set_option linter.all false
set_option maxRecDepth 100000
namespace Sl
open PySem PySem.Spec PyProof.Rows L2 TL
/-! ### desk.py: the object -/
def kfs (l m : Addr) : List (Str × V) := [("dimmers", .ref l), ("levels", .ref m)]
theorem kfs1 (l m : Addr) : (kfs l m).lookup ("dimmers" : Str) = some (.ref l) := by unfold kfs; rw [lk_here]
theorem kfs2 (l m : Addr) : (kfs l m).lookup ("levels" : Str) = some (.ref m) := by unfold kfs; rw [lk_skip (by decide), lk_here]
theorem kfs_no {l m : Addr} {x : Str} (h1 : ¬ x = "dimmers") (h2 : ¬ x = "levels") : (kfs l m).lookup x = none := by unfold kfs; rw [lk_skip h1, lk_skip h2]; rfl
theorem kfs_put (l m q : Addr) : putF "dimmers" (.ref q) (kfs l m) = kfs q m := by unfold kfs; rw [pf_here]
structure DeskAt (A : Ad) (H : Hp) (k l m : Addr) (as : List Addr) (st : Wqatds.State) : Prop where
  obj : ∃ dx, H k = some (.ins A.cK dx (kfs l m))
  dl : H l = some (.lst (as.map V.ref))
  lv : H m = some (.lst (nv st.look))
  len : st.look.length = 64
  low : ∀ x ∈ st.look, x ≤ 100
  dims : DimsAt A H as st.patch
  good : Mx.Good st.patch
theorem DeskAt.same {A : Ad} {H H' : Hp} {k l m : Addr} {as : List Addr} {st : Wqatds.State} (h : DeskAt A H k l m as st) (s : Same H H') : DeskAt A H' k l m as st :=
  ⟨let ⟨dx, e⟩ := h.obj; ⟨dx, s _ _ e⟩, s _ _ h.dl, s _ _ h.lv, h.len, h.low, h.dims.same s, h.good⟩
theorem look_at {k : Sg.Look} {c : Nat} (hl : k.length = 64) (h1 : 1 ≤ c) (h2 : c ≤ 64) : k[c - 1]? = some (k.of c) := by
  have : c - 1 < k.length := by omega
  unfold Sg.Look.of
  rw [List.getD_eq_getElem?_getD, List.getElem?_eq_getElem this]; rfl
theorem look_low {k : Sg.Look} {c : Nat} (hl : k.length = 64) (low : ∀ x ∈ k, x ≤ 100) (h1 : 1 ≤ c) (h2 : c ≤ 64) : k.of c ≤ 100 := low _ (List.mem_of_getElem? (look_at hl h1 h2))
def iv (l : List Int) : List V := l.map V.int
def an (a : Wqatds.Ans) : List Int := a.ret :: a.nums.map fun (n : Nat) => (n : Int)
theorem iv_an (z : Int) (l : List Nat) : iv (an (Wqatds.tells z l)) = V.int z :: nv l := by
  unfold iv an nv Wqatds.tells
  rw [List.map_cons, List.map_map]; rfl
theorem iv_one (z : Int) : iv (an (Wqatds.says z)) = [V.int z] := rfl
section
variable {P : Program} {w : World} {K : PySem.W.Frag} {mg : Str → Option Value} {base : Heap} {A : Ad}
def spKInit (A : Ad) : Sp := fun vs H Q _ => ∃ (p dx : Addr), vs = [.ref p] ∧ H p = some (.ins A.cK dx []) ∧
  ∀ (H' : Hp) (l m : Addr), H' p = some (.ins A.cK dx (kfs l m)) → H' l = some (.lst []) → H' m = some (.lst (nv Sg.dark)) → H l = none → H m = none → l ≠ m → (∀ b o, H b = some o → b ≠ p → H' b = some o) → Q .non H'
theorem ok_kinit {f : Addr} {fd : FuncData} (F : Fun K "__init__" "Desk.__init__" s_Desk_init f fd) (T : Txt K mg A) : FnOk P w K mg base CX0 1 f fd ["self"] (spKInit A) := by
  refine F.ok sc_Desk_init (fun vs H Q E h => ?_) (fun cdv B outer s H vs Q E hr h => ?_)
  · obtain ⟨p, dx, rfl, _⟩ := h
    rfl
  · obtain ⟨p, dx, rfl, hp, k⟩ := h
    refine ⟨_, pss_cons (ps_fld (pv 0) (pe_lst pa_nil) rfl) (pss_one (ps_fld (pv 0) (pe_op op_rep (pe_lst (pa_cons pe_int pa_nil)) (pk T.i2)) rfl)), ?_⟩
    refine ⟨Nat.zero_le _, fun l hl => ⟨_, rfl, p, _, dx, [], rfl, at_new hp hl, T.clK, T.nK1, (by show 0 < 1000; decide), (by show 1 ≤ sizeLine; decide), fun y hy => ?_⟩⟩
    refine ⟨y, 64, _, rfl, rfl, upd_same, by decide, by decide, (by show 1 * 64 ≤ sizeLine; decide), fun m hm => ?_⟩
    have lp : l ≠ p := fun z => by rw [z, hp] at hl; cases hl
    have h1p : upd (upd H l (.lst [])) p (.ins A.cK dx (putF "dimmers" (.ref l) [])) p = some (.ins A.cK dx (putF "dimmers" (.ref l) [])) := upd_same
    have h1l : upd (upd H l (.lst [])) p (.ins A.cK dx (putF "dimmers" (.ref l) [])) l = some (.lst []) := by rw [upd_ne lp, upd_same]
    have hm0 := (Same.new hy).free hm
    have mp : m ≠ p := fun z => by rw [z, upd_same] at hm0; cases hm0
    have ml : m ≠ l := fun z => by rw [z, h1l] at hm0; cases hm0
    refine ⟨_, rfl, p, _, dx, _, rfl, at_new (at_new h1p hy) hm, T.clK, T.nK2, (by show 1 < 1000; decide), ?_⟩
    refine k _ l m ?_ ?_ ?_ hl ?_ ml.symm fun b o e hb => ?_
    · rw [upd_same, pf_nil, pf_skip (by decide), pf_nil]; rfl
    · rw [upd_ne lp]; exact at_new (at_new h1l hy) hm
    · rw [upd_ne mp, upd_same]; rfl
    · rw [upd_ne mp, upd_ne ml] at hm0; exact hm0
    · rw [upd_ne hb]
      have h1b : upd (upd H l (.lst [])) p (.ins A.cK dx (putF "dimmers" (.ref l) [])) b = some o := by rw [upd_ne hb]; exact at_new e hl
      exact at_new (at_new h1b hy) hm
def spLevelOf (A : Ad) : Sp := fun vs H Q _ => ∃ (k l m : Addr) (as : List Addr) (st : Wqatds.State) (c : Nat), vs = [.ref k, .int c] ∧ DeskAt A H k l m as st ∧ 1 ≤ c ∧ c ≤ 64 ∧ Q (.int (st.look.of c : Nat)) H
theorem ok_levelof {f : Addr} {fd : FuncData} (F : Fun K "level_of" "Desk.level_of" s_Desk_level_of f fd) (T : Txt K mg A) : FnOk P w K mg base CX0 1 f fd ["self", "channel"] (spLevelOf A) := by
  refine F.ok sc_Desk_level_of (fun vs H Q E h => ?_) (fun cdv B outer s H vs Q E hr h => ?_)
  · obtain ⟨k, l, m, as, st, c, rfl, _⟩ := h
    rfl
  · obtain ⟨ka, l, m, as, st, c, rfl, D, h1, h2, k⟩ := h
    obtain ⟨dx, hk⟩ := D.obj
    refine ⟨_, pss_one (ps_ret (pe_ix ix_list (pe_fld (pv 0) rfl) (pe_op op_sub (pv 1) pe_int) (fun _ _ => rfl))), ?_⟩
    exact ⟨_, rfl, ka, _, dx, _, _, rfl, hk, T.clK, T.nK2, kfs2 _ _, _, rfl, _, _, rfl, rfl, m, _, _, _, rfl, rfl, SqL.of D.lv, at_of (j := c - 1) (by omega) (nv_at (look_at D.len h1 h2)), k⟩
def spNow (A : Ad) : Sp := fun vs H Q _ => ∃ (k l m : Addr) (as : List Addr) (st : Wqatds.State) (a : Addr) (d : Sg.Dimmer), vs = [.ref k, .ref a] ∧ DeskAt A H k l m as st ∧ DimAt A H a d ∧ d.ok = true ∧ Q (.int (d.gives (st.look.of d.channel) : Nat)) H
theorem ok_now {f : Addr} {fd : FuncData} (F : Fun K "given_now" "Desk.given_now" s_Desk_given_now f fd) (T : Txt K mg A) (D1 : Dn P w K mg base 3 "given_by" ["dimmer", "level"] (spGiven A)) (D2 : Md P w K mg base 1 A.cK "level_of" ["self", "channel"] (spLevelOf A)) :
    FnOk P w K mg base CX0 4 f fd ["self", "dimmer"] (spNow A) := by
  refine F.ok sc_Desk_given_now (fun vs H Q E h => ?_) (fun cdv B outer s H vs Q E hr h => ?_)
  · obtain ⟨k, l, m, as, st, a, d, rfl, _⟩ := h
    rfl
  · obtain ⟨ka, l, m, as, st, a, d, rfl, D, hd, ok, k⟩ := h
    obtain ⟨dx, hk⟩ := D.obj
    obtain ⟨dy, ha⟩ := hd
    obtain ⟨p1, p2, p3, p4, p5, p6⟩ := Mx.ok_parts ok
    have hr1 : Room 1 _ := hr.mono (by decide)
    refine ⟨_, pss_one (ps_ret (pe_dn D1 hr (pa_cons (pv 1) (pa_cons (pe_md D2 T.clK hr1 (pv 0) (pa_cons (pe_fld (pv 1) rfl) pa_nil)) pa_nil)))), ?_⟩
    exact ⟨_, rfl, _, rfl, ka, dx, _, rfl, hk, kfs_no (by decide) (by decide), _, rfl, a, _, dy, _, _, rfl, ha, T.clD, T.nD2, dfs2 _, ka, l, m, as, st, d.channel, rfl, D, p2.1, p2.2,
      a, d, _, rfl, ⟨dy, ha⟩, ok, look_low D.len D.low p2.1 p2.2, k⟩
def IsDim2 (A : Ad) (H : Hp) (v : V) : Option Sg.Dimmer → Prop
  | none => v = .non
  | some d => ∃ x, v = .ref x ∧ DimAt A H x d
def spFind (A : Ad) : Sp := fun vs H Q _ => ∃ (k l m : Addr) (as : List Addr) (st : Wqatds.State) (n : Nat), vs = [.ref k, .int n] ∧ DeskAt A H k l m as st ∧ ∀ v, IsDim2 A H v (Wqatds.find st n) → Q v H
theorem ok_find {f : Addr} {fd : FuncData} (F : Fun K "find_dimmer" "Desk.find_dimmer" s_Desk_find_dimmer f fd) (T : Txt K mg A) : FnOk P w K mg base CX0 1 f fd ["self", "number"] (spFind A) := by
  refine F.ok sc_Desk_find_dimmer (fun vs H Q E h => ?_) (fun cdv B outer s H vs Q E hr h => ?_)
  · obtain ⟨k, l, m, as, st, n, rfl, _⟩ := h
    rfl
  · obtain ⟨ka, l, m, as, st, n, rfl, D, k⟩ := h
    obtain ⟨dx, hk⟩ := D.obj
    have nd := sc_Desk_find_dimmer.nd
    refine ⟨_, pss_cons (ps_for PassesOwn.never rfl (pi_list (pe_fld (pv 0) rfl)) (pg_name (i := 2) nd rfl (Or.inl rfl))
        (pss_one (ps_if (pt_cmpR op_eq (pe_fld (pv 2) rfl) (pv 1) (nomark _)) (pss_one (ps_ret (pv 2))) pss_nil)))
      (pss_one (ps_ret pe_non)), ?_⟩
    refine ⟨_, rfl, ka, _, dx, _, _, rfl, hk, T.clK, T.nK1, kfs1 _ _, l, rfl, ⟨_, SqL.of D.dl⟩, for_list (K := K) (a := l) (xs := as.map V.ref) (fun i σ H' => H' = H ∧ (∃ v, σ = [some (.ref ka), some (.int n), v]) ∧ ∀ d ∈ st.patch.take i, ¬ d.number = n)
      ⟨rfl, ⟨none, rfl⟩, fun d hd => by simp at hd⟩ (fun i σ H' _ ⟨e, _⟩ => by rw [e]; exact SqL.of D.dl) ?_ ?_⟩
    · rintro i y σ H' hy ⟨rfl, ⟨v, rfl⟩, hno⟩
      obtain ⟨x, hx, rfl⟩ := ref_of hy
      obtain ⟨d, hd, dy, hxd⟩ := D.dims.get hx
      refine ⟨_, rfl, x, _, dy, _, _, rfl, hxd, T.clD, T.nD1, dfs1 _, _, rfl, rfl, _, rfl, ifB (fun z => ?_) (fun z => ?_)⟩
      · have z : d.number = n := by
          have := V.int.inj (of_decide_eq_true z)
          omega
        refine ⟨_, rfl, k _ ?_⟩
        have e : Wqatds.find st n = some d := by
          unfold Wqatds.find
          rw [List.find?_eq_some_iff_append]
          have hl : i < st.patch.length := (List.getElem?_eq_some_iff.mp hd).1
          have hg : st.patch[i] = d := (List.getElem?_eq_some_iff.mp hd).2
          refine ⟨by simp [z], st.patch.take i, st.patch.drop (i + 1), ?_, fun b hb => ?_⟩
          · rw [← hg, List.getElem_cons_drop, List.take_append_drop]
          · have := hno b hb
            simp [this]
        rw [e]
        exact ⟨x, rfl, dy, hxd⟩
      · have z : ¬ d.number = n := fun q => of_decide_eq_false z (by rw [q])
        refine ⟨rfl, ⟨_, rfl⟩, fun b hb => ?_⟩
        rw [take_snoc hd] at hb
        rcases List.mem_append.mp hb with hb | hb
        · exact hno b hb
        · simp at hb; subst hb; exact z
    · rintro σ H' ⟨rfl, ⟨v, rfl⟩, hno⟩
      refine k _ ?_
      rw [List.length_map, D.dims.len, List.take_length] at hno
      have e : Wqatds.find st n = none := by
        unfold Wqatds.find
        rw [List.find?_eq_none]
        intro d hd
        have := hno d hd
        simp [this]
      rw [e]
      rfl
/-! ### bounds -/
def spWithin (hi : Nat) : Sp := fun vs H Q _ => ∃ n : Nat, vs = [.int n] ∧ Q (.bl (Sg.within 1 hi n)) H
theorem within_of (hi n : Nat) : Sg.within 1 hi n = (decide ((1 : Int) ≤ (n : Int)) && decide ((n : Int) ≤ (hi : Int))) := by
  unfold Sg.within
  congr 1
  · by_cases h : 1 ≤ n
    · rw [decide_eq_true h, decide_eq_true (by omega)]
    · rw [decide_eq_false h, decide_eq_false (by omega)]
  · by_cases h : n ≤ hi
    · rw [decide_eq_true h, decide_eq_true (by omega)]
    · rw [decide_eq_false h, decide_eq_false (by omega)]
theorem ok_ischannel {f : Addr} {fd : FuncData} (F : Fun K "is_channel" "is_channel" s_is_channel f fd) (T : Txt K mg A) : FnOk P w K mg base CX0 1 f fd ["number"] (spWithin 64) := by
  refine F.ok sc_is_channel (fun vs H Q E h => ?_) (fun cdv B outer s H vs Q E hr h => ?_)
  · obtain ⟨n, rfl, _⟩ := h
    rfl
  · obtain ⟨n, rfl, k⟩ := h
    rw [within_of] at k
    refine ⟨_, pss_one (ps_ret (pe_chain op_le op_le pe_int (pv 0) (pk T.i2))), ?_⟩
    refine ⟨_, rfl, _, _, rfl, rfl, _, rfl, ifB (fun z => ?_) (fun z => ?_)⟩
    · rw [z, Bool.true_and] at k
      exact ⟨_, _, rfl, rfl, k⟩
    · rw [z, Bool.false_and] at k
      exact k
theorem ok_isphase {f : Addr} {fd : FuncData} (F : Fun K "is_phase" "is_phase" s_is_phase f fd) (T : Txt K mg A) : FnOk P w K mg base CX0 1 f fd ["number"] (spWithin 3) := by
  refine F.ok sc_is_phase (fun vs H Q E h => ?_) (fun cdv B outer s H vs Q E hr h => ?_)
  · obtain ⟨n, rfl, _⟩ := h
    rfl
  · obtain ⟨n, rfl, k⟩ := h
    rw [within_of] at k
    refine ⟨_, pss_one (ps_ret (pe_chain op_le op_le pe_int (pv 0) (pk T.i5))), ?_⟩
    refine ⟨_, rfl, _, _, rfl, rfl, _, rfl, ifB (fun z => ?_) (fun z => ?_)⟩
    · rw [z, Bool.true_and] at k
      exact ⟨_, _, rfl, rfl, k⟩
    · rw [z, Bool.false_and] at k
      exact k
def spCan (K : PySem.W.Frag) : Sp := fun vs H Q _ => ∃ (a : Addr) (ws : List Nat), vs = [.ref a] ∧ SqL K H a (nv ws) ∧ ws.length ≤ 100000 ∧ ∀ H', Same H H' → Q (.bl (decide (ws.length ≤ 9) && ws.all fun x => decide (x ≤ 5000))) H'
theorem ok_can {f : Addr} {fd : FuncData} (F : Fun K "can_be_dealt" "can_be_dealt" s_can_be_dealt f fd) (T : Txt K mg A) : FnOk P w K mg base CX0 1 f fd ["loads"] (spCan K) := by
  refine F.ok sc_can_be_dealt (fun vs H Q E h => ?_) (fun cdv B outer s H vs Q E hr h => ?_)
  · obtain ⟨a, ws, rfl, _⟩ := h
    rfl
  · obtain ⟨a, ws, rfl, hs, hl, k⟩ := h
    have nd := sc_can_be_dealt.nd
    refine ⟨_, pss_one (ps_ret (pe_and (pe_cmpR op_le (pe_len T.b1 (pv 0)) (pk T.i18) (nomark _)) (pe_one (pe_callB (cr_all rfl) rfl T.b6 PyProof.Rows.boot_all (pa_cons (pe_lc (own := [("load", 1)]) rfl nd (pi_list (pv 0)) (blkOk_by (by show blkC ["loads", "load"] (defScope s_can_be_dealt) _ [("load", 1)] = true; decide +kernel))
      (fun s H C cl fp => pg_name (i := 1) nd rfl (Or.inl rfl)) (fun _ _ _ _ _ => pts_nil) (fun s H C cl fp => pe_cmpR op_le (pv 1) (pk T.i4) (nomark _))) pa_nil))))), ?_⟩
    refine ⟨_, rfl, a, _, rfl, .inl hs, _, _, rfl, rfl, _, rfl, ?_⟩
    have e9 : decide (((nv ws).length : Int) ≤ 9) = decide (ws.length ≤ 9) := by
      rw [nv_len]
      by_cases h : ws.length ≤ 9
      · rw [decide_eq_true h, decide_eq_true (by omega)]
      · rw [decide_eq_false h, decide_eq_false (by omega)]
    rw [e9]
    refine ifB (fun z => ?_) (fun z => ?_)
    · rw [z] at k
      refine ⟨_, rfl, a, rfl, ⟨_, hs⟩, fun D hD => lc_list (K := K) (a := a) (xs := nv ws) (fun i H' => H' = upd H D (.lst (((ws.take i).map fun x => decide (x ≤ 5000)).map V.bl))) rfl (fun i H' _ e => by subst e; exact (Same.new hD).seq hs) ?_ ?_⟩
      · rintro i y H' hy rfl
        obtain ⟨n, hn, rfl⟩ := nv_of hy
        have e5 : decide ((n : Int) ≤ 5000) = decide (n ≤ 5000) := by
          by_cases h : n ≤ 5000
          · rw [decide_eq_true h, decide_eq_true (by omega)]
          · rw [decide_eq_false h, decide_eq_false (by omega)]
        refine ⟨rfl, tyes (iteT ⟨_, rfl, _, _, rfl, rfl, _, upd_same, ?_, ?_⟩)⟩
        · rw [List.length_map, List.length_map, List.length_take, szl]; omega
        · rw [upd_upd, take_snoc hn, List.map_append, List.map_append]; dsimp only; rw [e5]; rfl
      · rintro H' rfl
        rw [nv_len, List.take_length]
        refine ⟨D, ws.map fun x => decide (x ≤ 5000), rfl, SqL.of upd_same, ?_⟩
        rw [List.all_map]
        exact k _ (Same.new hD)
    · rw [z] at k
      exact k H (Same.refl H)
end
end Sl
end
section
set_option Elab.async false
set_option linter.all false
set_option maxRecDepth 100000
namespace Sl
open PySem PySem.Spec PyProof.Rows L2 TL
theorem numL_dec : ∀ (f n : Nat), n < f → numL n = (Sg.decimal n).map UInt8.toNat
  | 0, n, h => by omega
  | f + 1, n, h => by
    by_cases hn : n < 10
    · rw [numL_lt hn, Mx.decimal_small hn, List.map_cons, List.map_nil, Mx.ofNat_digit hn]
    · rw [numL_step (by omega), Mx.decimal_big hn, List.map_append, List.map_cons, List.map_nil, Mx.ofNat_digit (by omega), numL_dec f (n / 10) (by omega)]
def tb (b : Sg.Bytes) : List Nat := b.map UInt8.toNat
theorem tl_dec (n : Nat) : tl (Str.ofString (toString ((n : Nat) : Int))) = tb (Sg.decimal n) := by rw [tl_num, numL_dec (n + 1) n (by omega)]; rfl
theorem tl_cname {k : Nat} (h : k ≤ 3) : tl (cname k) = tb (Sg.CURVES.getD k []) := by
  match k, h with
  | 0, _ => decide +kernel
  | 1, _ => decide +kernel
  | 2, _ => decide +kernel
  | 3, _ => decide +kernel
  | k + 4, h => exact absurd h (by omega)
theorem tb_app (s t : Sg.Bytes) : tb (s ++ t) = tb s ++ tb t := List.map_append
theorem tb_cons (c : UInt8) (t : Sg.Bytes) : tb (c :: t) = c.toNat :: tb t := rfl
theorem tb_bv (b : Sg.Bytes) : (tb b).map (fun c => V.int ((c : Nat) : Int)) = bv b := by unfold tb bv; rw [List.map_map]; rfl
def sixs (d : Sg.Dimmer) : List Str := [Str.ofString (toString ((d.number : Nat) : Int)), Str.ofString (toString ((d.channel : Nat) : Int)), cname d.curve, Str.ofString (toString ((d.limit : Nat) : Int)), Str.ofString (toString ((d.watts : Nat) : Int)), Str.ofString (toString ((d.phase : Nat) : Int))]
theorem six_join (a b c d e f : List Nat) : joinL [32] [a, b, c, d, e, f] = a ++ (32 :: (b ++ (32 :: (c ++ (32 :: (d ++ (32 :: (e ++ (32 :: f))))))))) := rfl
theorem tb_text (d : Sg.Dimmer) : tb d.text = tb (Sg.decimal d.number) ++ (32 :: (tb (Sg.decimal d.channel) ++ (32 :: (tb (Sg.CURVES.getD d.curve []) ++ (32 :: (tb (Sg.decimal d.limit) ++ (32 :: (tb (Sg.decimal d.watts) ++ (32 :: tb (Sg.decimal d.phase)))))))))) := by
  have e : (32 : UInt8).toNat = 32 := rfl
  unfold Sg.Dimmer.text
  simp only [tb_app, tb_cons, e]
theorem tl_blank : tl (" " : Str) = [32] := by decide +kernel
theorem tl_six {d : Sg.Dimmer} (h : d.ok = true) : tl (Txt.join " " (sixs d)) = tb d.text := by
  obtain ⟨_, _, p3, _⟩ := Mx.ok_parts h
  rw [join_eq, tl_join, tl_blank, tb_text]
  unfold sixs
  rw [List.map_cons, List.map_cons, List.map_cons, List.map_cons, List.map_cons, List.map_cons, List.map_nil, six_join, tl_dec, tl_dec, tl_dec, tl_dec, tl_dec, tl_cname p3]
section
variable {P : Program} {w : World} {K : PySem.W.Frag} {mg : Str → Option Value} {base : Heap} {A : Ad}
def spWDim (A : Ad) : Sp := fun vs H Q _ => ∃ (a : Addr) (d : Sg.Dimmer), vs = [.ref a] ∧ DimAt A H a d ∧ d.ok = true ∧ ∀ H' q, Same H H' → H q = none → H' q = some (.lst (bv (d.text ++ [10]))) → Q (.ref q) H'
theorem star_call (f : Expr) (as : List Expr) (ks : List Keyword) (pos : Pos) (es : List Expr) (env : Env) : starEach (.Call f as ks pos :: es) env = (false, eval (.Call f as ks pos) env) :: starEach es env := rfl
theorem star_attr (e : Expr) (f : Str) (pos : Pos) (es : List Expr) (env : Env) : starEach (.Attribute e f pos :: es) env = (false, eval (.Attribute e f pos) env) :: starEach es env := rfl
theorem pa_c {X : Cx} {f : Expr} {as es : List Expr} {ks : List Keyword} {pos : Pos} {te : TE} {t : TA} (h : PE X (.Call f as ks pos) te) (hr : PA X es t) : PA X (.Call f as ks pos :: es) (tCons te t) := pa_cons h hr (star_call f as ks pos es X.env)
theorem pa_a {X : Cx} {e : Expr} {f : Str} {es : List Expr} {pos : Pos} {te : TE} {t : TA} (h : PE X (.Attribute e f pos) te) (hr : PA X es t) : PA X (.Attribute e f pos :: es) (tCons te t) := pa_cons h hr (star_attr e f pos es X.env)
theorem ok_wdim {f : Addr} {fd : FuncData} (F : Fun K "write_dimmer" "write_dimmer" s_write_dimmer f fd) (T : Txt K mg A) (D1 : Dn P w K mg base 1 "bytes_of" ["words"] spBytes) : FnOk P w K mg base CX0 2 f fd ["dimmer"] (spWDim A) := by
  refine F.ok sc_write_dimmer (fun vs H Q E h => ?_) (fun cdv B outer s H vs Q E hr h => ?_)
  · obtain ⟨a, d, rfl, _⟩ := h
    rfl
  · obtain ⟨a, d, rfl, ⟨dx, hd⟩, ok, k⟩ := h
    have nd := sc_write_dimmer.nd
    obtain ⟨p1, p2, p3, p4, p5, p6⟩ := Mx.ok_parts ok
    refine ⟨_, pss_cons (ps_set (i := 1) nd rfl (Or.inl rfl) (pe_lst (pa_c (pe_callTy call_str_int rfl T.b5 PyProof.Rows.boot_str (pa_a (pe_fld (pv 0) rfl) pa_nil))
        (pa_c (pe_callTy call_str_int rfl T.b5 PyProof.Rows.boot_str (pa_a (pe_fld (pv 0) rfl) pa_nil)) (pa_a (pe_fld (pv 0) rfl) (pa_c (pe_callTy call_str_int rfl T.b5 PyProof.Rows.boot_str (pa_a (pe_fld (pv 0) rfl) pa_nil))
        (pa_c (pe_callTy call_str_int rfl T.b5 PyProof.Rows.boot_str (pa_a (pe_fld (pv 0) rfl) pa_nil)) (pa_c (pe_callTy call_str_int rfl T.b5 PyProof.Rows.boot_str (pa_a (pe_fld (pv 0) rfl) pa_nil)) pa_nil))))))))
      (pss_one (ps_ret (pe_op op_cat (pe_dn D1 hr (pa_c (pe_join pe_str (pv 1)) pa_nil)) (pe_lst (pa_cons (pk T.i6) pa_nil))))), ?_⟩
    have lg : ∀ n : Nat, n ≤ 5000 → (((n : Nat) : Int).natAbs).log2 < 1920 := fun n hn => by
      show n.log2 < 1920
      by_cases z : n = 0
      · subst z; decide
      · exact (Nat.log2_lt z).mpr (Nat.lt_of_le_of_lt hn (Nat.lt_of_lt_of_le (show 5000 < 2 ^ 13 by decide) (Nat.pow_le_pow_right (by decide) (by decide))))
    refine ⟨_, rfl, a, _, dx, _, _, rfl, hd, T.clD, T.nD1, dfs1 _, _, rfl, lg _ (by omega), _, rfl, a, _, dx, _, _, rfl, hd, T.clD, T.nD2, dfs2 _, _, rfl, lg _ (by omega), _, rfl, a, _, dx, _, _, rfl, hd, T.clD, T.nD3, dfs3 _,
      _, rfl, a, _, dx, _, _, rfl, hd, T.clD, T.nD4, dfs4 _, _, rfl, lg _ (by omega), _, rfl, a, _, dx, _, _, rfl, hd, T.clD, T.nD5, dfs5 _, _, rfl, lg _ (by omega), _, rfl, a, _, dx, _, _, rfl, hd, T.clD, T.nD6, dfs6 _, _, rfl, lg _ (by omega),
      (by show 6 ≤ sizeLine; decide), fun l hl => ?_⟩
    have tx := Mx.text_len ok
    have jl : (Txt.join " " (sixs d)).length ≤ 32 := by
      rw [len_tl, tl_six ok]
      unfold tb
      rw [List.length_map]
      rw [List.length_append] at tx
      simp at tx
      omega
    refine ⟨⟨_, rfl⟩, _, rfl, " ", l, sixs d, rfl, rfl, .inl (SqL.of upd_same), ?_, ?_⟩
    · have h1 : ∀ n, n ≤ 5000 → (Str.ofString (toString ((n : Nat) : Int))).length ≤ 4 := fun n hn => by
        rw [len_tl, tl_dec]; unfold tb; rw [List.length_map]; exact Mx.dec_len 3 n (by omega)
      have h2 : (cname d.curve).length ≤ 6 := by rw [len_tl, tl_cname p3]; unfold tb; rw [List.length_map]; exact Mx.curve_len _ p3
      have q1 := h1 d.number (by omega)
      have q2 := h1 d.channel (by omega)
      have q3 := h1 d.limit (by omega)
      have q4 := h1 d.watts (by omega)
      have q5 := h1 d.phase (by omega)
      unfold sixs
      simp only [List.map_cons, List.map_nil, List.sum_cons, List.sum_nil, List.length_cons, List.length_nil]
      have : (" " : Str).length = 1 := by decide +kernel
      rw [this]
      omega
    · refine ⟨_, rfl, by omega, fun y hy => ?_⟩
      refine ⟨(by show 1 ≤ sizeLine; decide), fun z hz => ?_⟩
      refine ⟨y, z, _, _, rfl, rfl, at_new upd_same hz, upd_same, ?_, fun q hq => ?_⟩
      · unfold sv
        rw [List.length_map, ← len_tl, szl]
        show _ + 1 ≤ _
        omega
      · refine k _ q (((Same.new hl).add hy |>.add hz).add hq) ((((Same.new hl).add hy).add hz).free hq) ?_
        rw [upd_same, bv_app]
        unfold sv
        rw [tl_six ok, tb_bv]; rfl
def spWPatch (A : Ad) : Sp := fun vs H Q _ => ∃ (a : Addr) (as : List Addr) (ds : Sg.Patch), vs = [.ref a] ∧ H a = some (.lst (as.map V.ref)) ∧ DimsAt A H as ds ∧ Mx.Good ds ∧ ∀ H' q, Same H H' → H q = none → H' q = some (.lst (bv (Sg.Patch.text ds))) → Q (.ref q) H'
theorem ok_wpatch {f : Addr} {fd : FuncData} (F : Fun K "write_patch" "write_patch" s_write_patch f fd) (T : Txt K mg A) (D1 : Dn P w K mg base 2 "write_dimmer" ["dimmer"] (spWDim A)) : FnOk P w K mg base CX0 3 f fd ["dimmers"] (spWPatch A) := by
  refine F.ok sc_write_patch (fun vs H Q E h => ?_) (fun cdv B outer s H vs Q E hr h => ?_)
  · obtain ⟨a, as, ds, rfl, _⟩ := h
    rfl
  · obtain ⟨a, as, ds, rfl, ha, dd, gd, k⟩ := h
    have nd := sc_write_patch.nd
    refine ⟨_, pss_cons (ps_set (i := 1) nd rfl (Or.inl rfl) (pe_lst pa_nil))
      (pss_cons (ps_for PassesOwn.never rfl (pi_list (pv 0)) (pg_name (i := 2) nd rfl (Or.inl rfl))
        (pss_one (ps_expr (pe_bm PySem.F.plainAttrs_list PySem.F.slot_list_extend PySem.F.type_list_extend mt_extend (pv 1) (pa_cons (pe_dn D1 hr (pa_cons (pv 2) pa_nil)) pa_nil)))))
      (pss_one (ps_ret (pv 1)))), ?_⟩
    refine ⟨Nat.zero_le _, fun q hq => ?_⟩
    have sq : Same H (upd H q (.lst [])) := Same.new hq
    have tlen : ∀ i, (Sg.Patch.text (ds.take i)).length ≤ 32 * 128 := fun i => by
      have h1 := Mx.flat_len (ds.take i) fun d hd => gd.ok d (List.mem_of_mem_take hd)
      have h2 := gd.len
      rw [List.length_take] at h1
      omega
    refine ⟨_, rfl, a, rfl, ⟨_, SqL.of (sq _ _ ha)⟩, for_list (K := K) (a := a) (xs := as.map V.ref) (fun i σ H' => ∃ v, σ = [some (.ref a), some (.ref q), v] ∧ Same H H' ∧ H' q = some (.lst (bv (Sg.Patch.text (ds.take i)))))
      ⟨none, rfl, sq, upd_same⟩ (fun i σ H' _ ⟨_, _, s5, _⟩ => SqL.of (s5 _ _ ha)) ?_ ?_⟩
    · rintro i y σ H' hy ⟨v, rfl, sm, hq'⟩
      obtain ⟨x, hx, rfl⟩ := ref_of hy
      obtain ⟨d, hd, hxd⟩ := dd.get hx
      have dok := gd.ok d (List.mem_of_getElem? hd)
      refine ⟨_, rfl, .inl ⟨rfl, _, SqL.of hq'⟩, _, rfl, x, d, rfl, hxd.same sm, dok, fun H2 p s2 np hp => ?_⟩
      refine ⟨q, p, _, _, rfl, rfl, s2 _ _ hq', hp, ?_, _, rfl, (sm.trans s2).put hq, ?_⟩
      · rw [bv_len, bv_len, szl]
        have h1 := tlen i
        have h2 := Mx.text_len dok
        omega
      · rw [upd_same, take_snoc hd]
        unfold Sg.Patch.text
        simp [bv_app]
    · rintro σ H' ⟨v, rfl, sm, hq'⟩
      rw [List.length_map, dd.len, List.take_length] at hq'
      exact ⟨_, rfl, k H' q sm hq hq'⟩
end
end Sl
end
section
set_option Elab.async false
set_option linter.all false
set_option maxRecDepth 100000
namespace Sl
open PySem PySem.Spec PyProof.Rows L2 TL
theorem nv_bytes (t : Sg.Bytes) : nv (t.map fun (c : UInt8) => c.toNat) = bv t := by unfold nv bv; rw [List.map_map]; rfl
/-- [z] is handed back -/
theorem ret1 {H0 H : Hp} {Q : VK} {z : Int} {a : Wqatds.Ans} (sm : Same H0 H) (k : ∀ (H' : Hp) (q : Addr), Same H0 H' → H0 q = none → H' q = some (.lst (iv (an a))) → Q (.ref q) H') (e : a = Wqatds.says z) :
    [V.int z].length ≤ sizeLine ∧ ∀ p, H p = none → Q (.ref p) (upd H p (.lst [V.int z])) :=
  ⟨by show 1 ≤ sizeLine; decide, fun p hp => k _ p (sm.add hp) (sm.free hp) (by rw [upd_same, e]; rfl)⟩
section
variable {P : Program} {w : World} {K : PySem.W.Frag} {mg : Str → Option Value} {base : Heap} {A : Ad}
/-- calls that only ask -/
def spA0 (A : Ad) (c : Wqatds.Call) : Sp := fun vs H Q _ => ∃ (k l m : Addr) (as : List Addr) (st : Wqatds.State), vs = [.ref k] ∧ DeskAt A H k l m as st ∧
  ∀ (H' : Hp) (q : Addr), Same H H' → H q = none → H' q = some (.lst (iv (an (Wqatds.told st c)))) → Q (.ref q) H'
def spA1 (A : Ad) (c : Nat → Wqatds.Call) : Sp := fun vs H Q _ => ∃ (k l m : Addr) (as : List Addr) (st : Wqatds.State) (n : Nat), vs = [.ref k, .int n] ∧ DeskAt A H k l m as st ∧
  ∀ (H' : Hp) (q : Addr), Same H H' → H q = none → H' q = some (.lst (iv (an (Wqatds.told st (c n))))) → Q (.ref q) H'
def spA2 (A : Ad) (c : Nat → Nat → Wqatds.Call) : Sp := fun vs H Q _ => ∃ (k l m : Addr) (as : List Addr) (st : Wqatds.State) (n j : Nat), vs = [.ref k, .int n, .int j] ∧ DeskAt A H k l m as st ∧
  ∀ (H' : Hp) (q : Addr), Same H H' → H q = none → H' q = some (.lst (iv (an (Wqatds.told st (c n j))))) → Q (.ref q) H'
theorem ok_print {f : Addr} {fd : FuncData} (F : Fun K "answer_print" "Desk.answer_print" s_Desk_answer_print f fd) (T : Txt K mg A) (D1 : Dn P w K mg base 3 "write_patch" ["dimmers"] (spWPatch A)) : FnOk P w K mg base CX0 4 f fd ["self"] (spA0 A .print) := by
  refine F.ok sc_Desk_answer_print (fun vs H Q E h => ?_) (fun cdv B outer s H vs Q E hr h => ?_)
  · obtain ⟨k, l, m, as, st, rfl, _⟩ := h
    rfl
  · obtain ⟨ka, l, m, as, st, rfl, D, k⟩ := h
    obtain ⟨dx, hk⟩ := D.obj
    have nd := sc_Desk_answer_print.nd
    refine ⟨_, pss_cons (ps_set (i := 1) nd rfl (Or.inl rfl) (pe_dn D1 hr (pa_cons (pe_fld (pv 0) rfl) pa_nil))) (pss_one (ps_ret (pe_op op_cat (pe_lst (pa_cons (pe_len T.b1 (pv 1)) pa_nil)) (pv 1)))), ?_⟩
    refine ⟨_, rfl, ka, _, dx, _, _, rfl, hk, T.clK, T.nK1, kfs1 _ _, l, as, st.patch, rfl, D.dl, D.dims, D.good, fun H1 q s1 nq hq => ?_⟩
    refine ⟨_, rfl, q, _, rfl, .inl (SqL.of hq), (by show 1 ≤ sizeLine; decide), fun y hy => ?_⟩
    refine ⟨_, rfl, y, q, _, _, rfl, rfl, upd_same, at_new hq hy, ?_, fun z hz => ?_⟩
    · have := D.good.text
      rw [bv_len, szl]
      show 1 + _ ≤ _
      omega
    · refine k _ z ((s1.add hy).add hz) ((s1.add hy).free hz) ?_
      rw [upd_same]
      show some (HO.lst ([V.int ((bv st.patch.text).length : Int)] ++ bv st.patch.text)) = some (HO.lst (iv (an (Wqatds.tells (st.patch.text.length : Nat) (st.patch.text.map fun (c : UInt8) => c.toNat)))))
      rw [iv_an, nv_bytes, bv_len]; rfl
theorem ok_level {f : Addr} {fd : FuncData} (F : Fun K "answer_level" "Desk.answer_level" s_Desk_answer_level f fd) (T : Txt K mg A) (D1 : Dn P w K mg base 1 "is_channel" ["number"] (spWithin 64)) (D2 : Md P w K mg base 1 A.cK "level_of" ["self", "channel"] (spLevelOf A)) :
    FnOk P w K mg base CX0 2 f fd ["self", "channel"] (spA1 A .level) := by
  refine F.ok sc_Desk_answer_level (fun vs H Q E h => ?_) (fun cdv B outer s H vs Q E hr h => ?_)
  · obtain ⟨k, l, m, as, st, n, rfl, _⟩ := h
    rfl
  · obtain ⟨ka, l, m, as, st, n, rfl, D, k⟩ := h
    obtain ⟨dx, hk⟩ := D.obj
    refine ⟨_, pss_cons (ps_if (pt_not (pt_val (pe_dn D1 hr (pa_cons (pv 1) pa_nil)))) (pss_one (ps_ret (pe_lst (pa_cons (pk T.i19) pa_nil)))) pss_nil)
      (pss_one (ps_ret (pe_lst (pa_cons (pe_md D2 T.clK hr (pv 0) (pa_cons (pv 1) pa_nil)) pa_nil)))), ?_⟩
    refine ⟨_, rfl, n, rfl, _, rfl, ifB (fun z => ?_) (fun z => ?_)⟩
    · have z : Sg.within 1 64 n = false := by simpa using z
      exact ret1 (Same.refl H) k (by show (if Sg.within 1 64 n = false then _ else _) = _; rw [if_pos z]; rfl)
    · have z : Sg.within 1 64 n = true := by simpa using z
      have zz : 1 ≤ n ∧ n ≤ 64 := by
        unfold Sg.within at z
        rw [Bool.and_eq_true, decide_eq_true_iff, decide_eq_true_iff] at z
        exact z
      refine ⟨_, rfl, ka, dx, _, rfl, hk, kfs_no (by decide) (by decide), _, rfl, ka, l, m, as, st, n, rfl, D, zz.1, zz.2, ?_⟩
      exact ret1 (Same.refl H) k (by show (if Sg.within 1 64 n = false then _ else _) = _; rw [if_neg (by rw [z]; decide)])
theorem ok_out {f : Addr} {fd : FuncData} (F : Fun K "answer_out" "Desk.answer_out" s_Desk_answer_out f fd) (T : Txt K mg A) (D1 : Md P w K mg base 1 A.cK "find_dimmer" ["self", "number"] (spFind A)) (D2 : Md P w K mg base 4 A.cK "given_now" ["self", "dimmer"] (spNow A)) :
    FnOk P w K mg base CX0 5 f fd ["self", "number"] (spA1 A .out) := by
  refine F.ok sc_Desk_answer_out (fun vs H Q E h => ?_) (fun cdv B outer s H vs Q E hr h => ?_)
  · obtain ⟨k, l, m, as, st, n, rfl, _⟩ := h
    rfl
  · obtain ⟨ka, l, m, as, st, n, rfl, D, k⟩ := h
    obtain ⟨dx, hk⟩ := D.obj
    have nd := sc_Desk_answer_out.nd
    have hr1 : Room 1 _ := hr.mono (by decide)
    refine ⟨_, pss_cons (ps_set (i := 2) nd rfl (Or.inl rfl) (pe_md D1 T.clK hr1 (pv 0) (pa_cons (pv 1) pa_nil)))
      (pss_cons (ps_if (pt_cmp (pc_isN (pv 2))) (pss_one (ps_ret (pe_lst (pa_cons (pk T.i22) pa_nil)))) pss_nil)
      (pss_one (ps_ret (pe_lst (pa_cons (pe_md D2 T.clK hr (pv 0) (pa_cons (pv 2) pa_nil)) pa_nil))))), ?_⟩
    refine ⟨_, rfl, ka, dx, _, rfl, hk, kfs_no (by decide) (by decide), _, rfl, ka, l, m, as, st, n, rfl, D, fun v hv => ?_⟩
    have e0 : Wqatds.told st (.out n) = (match Wqatds.find st n with
      | none => Wqatds.NONE
      | some x => Wqatds.says (x.gives (st.look.of x.channel) : Nat)) := rfl
    cases hf : Wqatds.find st n with
    | none =>
      rw [hf] at hv e0
      have hv : v = .non := hv
      subst hv
      refine ⟨_, rfl, true, rfl, iteT ?_⟩
      exact ret1 (Same.refl H) k e0
    | some d =>
      rw [hf] at hv e0
      obtain ⟨x, rfl, hx⟩ := hv
      have dok : d.ok = true := D.good.ok d (List.mem_of_find?_eq_some hf)
      refine ⟨_, rfl, false, rfl, iteF ?_⟩
      refine ⟨_, rfl, ka, dx, _, rfl, hk, kfs_no (by decide) (by decide), _, rfl, ka, l, m, as, st, x, d, rfl, D, hx, dok, ?_⟩
      exact ret1 (Same.refl H) k e0
theorem ok_needs {f : Addr} {fd : FuncData} (F : Fun K "answer_needs" "Desk.answer_needs" s_Desk_answer_needs f fd) (T : Txt K mg A) (D1 : Md P w K mg base 1 A.cK "find_dimmer" ["self", "number"] (spFind A)) (D2 : Dn P w K mg base 4 "least_level" ["dimmer", "much"] (spLeast A)) :
    FnOk P w K mg base CX0 5 f fd ["self", "number", "much"] (spA2 A .needs) := by
  refine F.ok sc_Desk_answer_needs (fun vs H Q E h => ?_) (fun cdv B outer s H vs Q E hr h => ?_)
  · obtain ⟨k, l, m, as, st, n, j, rfl, _⟩ := h
    rfl
  · obtain ⟨ka, l, m, as, st, n, j, rfl, D, k⟩ := h
    obtain ⟨dx, hk⟩ := D.obj
    have nd := sc_Desk_answer_needs.nd
    have hr1 : Room 1 _ := hr.mono (by decide)
    refine ⟨_, pss_cons (ps_set (i := 3) nd rfl (Or.inl rfl) (pe_md D1 T.clK hr1 (pv 0) (pa_cons (pv 1) pa_nil)))
      (pss_cons (ps_if (pt_cmp (pc_isN (pv 3))) (pss_one (ps_ret (pe_lst (pa_cons (pk T.i22) pa_nil)))) pss_nil)
      (pss_cons (ps_set (i := 4) nd rfl (Or.inl rfl) (pe_dn D2 hr (pa_cons (pv 3) (pa_cons (pv 2) pa_nil))))
      (pss_cons (ps_if (pt_cmp (pc_isN (pv 4))) (pss_one (ps_ret (pe_lst (pa_cons (pk T.i21) pa_nil)))) pss_nil)
      (pss_one (ps_ret (pe_lst (pa_cons (pv 4) pa_nil))))))), ?_⟩
    refine ⟨_, rfl, ka, dx, _, rfl, hk, kfs_no (by decide) (by decide), _, rfl, ka, l, m, as, st, n, rfl, D, fun v hv => ?_⟩
    have e0 : Wqatds.told st (.needs n j) = (match Wqatds.find st n with
      | none => Wqatds.NONE
      | some x => match x.level j with
        | none => Wqatds.says (-3)
        | some l => Wqatds.says (l : Nat)) := rfl
    cases hf : Wqatds.find st n with
    | none =>
      rw [hf] at hv e0
      have hv : v = .non := hv
      subst hv
      refine ⟨_, rfl, true, rfl, iteT ?_⟩
      exact ret1 (Same.refl H) k e0
    | some d =>
      rw [hf] at hv e0
      obtain ⟨x, rfl, hx⟩ := hv
      have dok : d.ok = true := D.good.ok d (List.mem_of_find?_eq_some hf)
      refine ⟨_, rfl, false, rfl, iteF ?_⟩
      refine ⟨_, rfl, _, rfl, x, d, j, rfl, hx, dok, ?_⟩
      have e0 : Wqatds.told st (.needs n j) = (match d.level j with
        | none => Wqatds.says (-3)
        | some l => Wqatds.says (l : Nat)) := e0
      cases hl : d.level j with
      | none =>
        rw [hl] at e0
        refine ⟨_, rfl, true, rfl, iteT ?_⟩
        exact ret1 (Same.refl H) k e0
      | some lv =>
        rw [hl] at e0
        refine ⟨_, rfl, false, rfl, iteF ?_⟩
        refine ⟨_, rfl, ?_⟩
        exact ret1 (Same.refl H) k e0
/-! ### comprehensions over the dimmers -/
theorem ok_outs {f : Addr} {fd : FuncData} (F : Fun K "answer_outs" "Desk.answer_outs" s_Desk_answer_outs f fd) (T : Txt K mg A) (D2 : Md P w K mg base 4 A.cK "given_now" ["self", "dimmer"] (spNow A)) :
    FnOk P w K mg base CX0 5 f fd ["self"] (spA0 A .outs) := by
  refine F.ok sc_Desk_answer_outs (fun vs H Q E h => ?_) (fun cdv B outer s H vs Q E hr h => ?_)
  · obtain ⟨k, l, m, as, st, rfl, _⟩ := h
    rfl
  · obtain ⟨ka, l, m, as, st, rfl, D, k⟩ := h
    obtain ⟨dx, hk⟩ := D.obj
    have nd := sc_Desk_answer_outs.nd
    refine ⟨_, pss_cons (ps_setLc (i := 1) (own := [("dimmer", 2)]) rfl nd rfl rfl (sw_true rfl rfl rfl rfl) (pi_list (pe_fld (pv 0) rfl)) (blkOk_by (by show blkC ["self", "given", "dimmer"] (defScope s_Desk_answer_outs) _ [("dimmer", 2)] = true; decide +kernel))
        (fun s H C cl fp => pg_name (i := 2) nd rfl (Or.inl rfl)) (fun _ _ _ _ _ => pts_nil) (fun s H C cl fp => pe_md D2 T.clK hr (pv 0) (pa_cons (pv 2) pa_nil)))
      (pss_one (ps_ret (pe_op op_cat (pe_lst (pa_cons (pe_len T.b1 (pv 1)) pa_nil)) (pv 1)))), ?_⟩
    refine ⟨_, rfl, ka, _, dx, _, _, rfl, hk, T.clK, T.nK1, kfs1 _ _, l, rfl, ⟨_, SqL.of D.dl⟩, fun DD hD => lc_list (K := K) (a := l) (xs := as.map V.ref) (fun i H' => H' = upd H DD (.lst (nv ((Sg.outs st.patch st.look).take i)))) rfl (fun i H' _ e => by subst e; exact SqL.of (at_new D.dl hD)) ?_ ?_⟩
    · rintro i y H' hy rfl
      obtain ⟨x, hx, rfl⟩ := ref_of hy
      obtain ⟨d, hd, hxd⟩ := D.dims.get hx
      have dok : d.ok = true := D.good.ok d (List.mem_of_getElem? hd)
      have ho : (Sg.outs st.patch st.look)[i]? = some (d.gives (st.look.of d.channel)) := by unfold Sg.outs; rw [List.getElem?_map, hd]; rfl
      have sm : Same H (upd H DD (.lst (nv ((Sg.outs st.patch st.look).take i)))) := Same.new hD
      refine ⟨rfl, tyes (iteT ⟨_, rfl, ka, dx, _, rfl, sm _ _ hk, kfs_no (by decide) (by decide), _, rfl, ka, l, m, as, st, x, d, rfl, D.same sm, hxd.same sm, dok, _, upd_same, ?_, ?_⟩)⟩
      · rw [nv_len, List.length_take, szl]
        have := D.good.len
        have : (Sg.outs st.patch st.look).length = st.patch.length := by unfold Sg.outs; rw [List.length_map]
        omega
      · rw [upd_upd, take_snoc ho, nv_app]; rfl
    · rintro H' rfl
      have le : (as.map V.ref).length = (Sg.outs st.patch st.look).length := by unfold Sg.outs; rw [List.length_map, List.length_map, D.dims.len]
      rw [le, List.take_length]
      have ol : (Sg.outs st.patch st.look).length = st.patch.length := by unfold Sg.outs; rw [List.length_map]
      refine ⟨_, rfl, DD, _, rfl, .inl (SqL.of upd_same), (by show 1 ≤ sizeLine; decide), fun y hy => ?_⟩
      refine ⟨_, rfl, y, DD, _, _, rfl, rfl, upd_same, at_new upd_same hy, ?_, fun z hz => ?_⟩
      · rw [nv_len, szl, ol]
        have := D.good.len
        show 1 + _ ≤ _
        omega
      · refine k _ z (((Same.new hD).add hy).add hz) (((Same.new hD).add hy).free hz) ?_
        rw [upd_same]
        show some (HO.lst ([V.int ((nv (Sg.outs st.patch st.look)).length : Int)] ++ nv (Sg.outs st.patch st.look))) = some (HO.lst (iv (an (Wqatds.tells (st.patch.length : Nat) (Sg.outs st.patch st.look)))))
        rw [iv_an, nv_len, ol]; rfl
end
end Sl
end
section
set_option Elab.async false
set_option linter.all false
set_option maxRecDepth 100000
namespace Sl
open PySem PySem.Spec PyProof.Rows L2 TL
theorem not_t {b : Bool} (h : (!b) = true) : b = false := by cases b with | true => cases h | false => rfl
theorem not_f {b : Bool} (h : (!b) = false) : b = true := by cases b with | true => rfl | false => cases h
theorem dec_nat (a b : Nat) : decide (V.int (a : Int) = V.int (b : Int)) = (a == b) := by
  by_cases h : a = b
  · subst h; rw [decide_eq_true rfl, beq_self_eq_true]
  · rw [decide_eq_false (fun z => h (by have := V.int.inj z; omega)), beq_eq_false_iff_ne.mpr h]
section
variable {P : Program} {w : World} {K : PySem.W.Frag} {mg : Str → Option Value} {base : Heap} {A : Ad}
def numsOf (c : Nat) (p : List Sg.Dimmer) : List Nat := (p.filter fun (x : Sg.Dimmer) => x.channel == c).map fun (x : Sg.Dimmer) => x.number
theorem nums_snoc (c : Nat) (p : List Sg.Dimmer) (d : Sg.Dimmer) : numsOf c (p ++ [d]) = if (d.channel == c) = true then numsOf c p ++ [d.number] else numsOf c p := by
  unfold numsOf
  rw [List.filter_append, List.filter_cons, List.filter_nil]
  split
  · rw [List.map_append]; rfl
  · rw [List.append_nil]
theorem nums_len (c : Nat) (p : List Sg.Dimmer) : (numsOf c p).length ≤ p.length := by
  unfold numsOf
  rw [List.length_map]
  exact List.length_filter_le _ _
theorem ok_channel {f : Addr} {fd : FuncData} (F : Fun K "answer_channel" "Desk.answer_channel" s_Desk_answer_channel f fd) (T : Txt K mg A) (D1 : Dn P w K mg base 1 "is_channel" ["number"] (spWithin 64)) :
    FnOk P w K mg base CX0 2 f fd ["self", "channel"] (spA1 A .channel) := by
  refine F.ok sc_Desk_answer_channel (fun vs H Q E h => ?_) (fun cdv B outer s H vs Q E hr h => ?_)
  · obtain ⟨k, l, m, as, st, n, rfl, _⟩ := h
    rfl
  · obtain ⟨ka, l, m, as, st, n, rfl, D, k⟩ := h
    obtain ⟨dx, hk⟩ := D.obj
    have nd := sc_Desk_answer_channel.nd
    refine ⟨_, pss_cons (ps_if (pt_not (pt_val (pe_dn D1 hr (pa_cons (pv 1) pa_nil)))) (pss_one (ps_ret (pe_lst (pa_cons (pk T.i19) pa_nil)))) pss_nil)
      (pss_cons (ps_setLc (i := 2) (own := [("dimmer", 3)]) (tt := tTest (tOp rEq (tFld K (tVar 3) "channel") (tVar 1))) (te := tFld K (tVar 3) "number") rfl nd rfl rfl (sw_true rfl rfl rfl rfl) (pi_list (pe_fld (pv 0) rfl)) (blkOk_by (by show blkC ["self", "channel", "numbers", "dimmer"] (defScope s_Desk_answer_channel) _ [("dimmer", 3)] = true; decide +kernel))
        (fun s H C cl fp => pg_name (i := 3) nd rfl (Or.inl rfl)) (fun _ _ _ _ _ => pts_one (pt_cmpR op_eq (pe_fld (pv 3) (by rfl)) (pv 1) (nomark _))) (fun s H C cl fp => pe_fld (pv 3) (by rfl)))
      (pss_one (ps_ret (pe_op op_cat (pe_lst (pa_cons (pe_len T.b1 (pv 2)) pa_nil)) (pv 2))))), ?_⟩
    refine ⟨_, rfl, n, rfl, _, rfl, ifB (fun z => ?_) (fun z => ?_)⟩
    · have z : Sg.within 1 64 n = false := by simpa using z
      exact ret1 (Same.refl H) k (by show (if Sg.within 1 64 n = false then _ else _) = _; rw [if_pos z]; rfl)
    · have z : Sg.within 1 64 n = true := by simpa using z
      have e0 : Wqatds.told st (.channel n) = Wqatds.tells ((numsOf n st.patch).length : Nat) (numsOf n st.patch) := by show (if Sg.within 1 64 n = false then _ else _) = _; rw [if_neg (by rw [z]; decide)]; rfl
      rw [e0, iv_an] at k
      have pl := D.good.len
      refine ⟨_, rfl, ka, _, dx, _, _, rfl, hk, T.clK, T.nK1, kfs1 _ _, l, rfl, ⟨_, SqL.of D.dl⟩, fun DD hD => lc_list (K := K) (a := l) (xs := as.map V.ref) (fun i H' => H' = upd H DD (.lst (nv (numsOf n (st.patch.take i))))) rfl (fun i H' _ e => by subst e; exact SqL.of (at_new D.dl hD)) ?_ ?_⟩
      · rintro i y H' hy rfl
        obtain ⟨x, hx, rfl⟩ := ref_of hy
        obtain ⟨d, hd, dy, hxd⟩ := D.dims.get hx
        have sm : Same H (upd H DD (.lst (nv (numsOf n (st.patch.take i))))) := Same.new hD
        refine ⟨rfl, _, rfl, x, _, dy, _, _, rfl, sm _ _ hxd, T.clD, T.nD2, dfs2 _, _, rfl, rfl, _, rfl, ?_⟩
        rw [dec_nat, take_snoc hd, nums_snoc]
        refine ifB (fun z => ?_) (fun z => ?_)
        · rw [if_pos z]
          refine ⟨_, rfl, x, _, dy, _, _, rfl, sm _ _ hxd, T.clD, T.nD1, dfs1 _, _, upd_same, ?_, ?_⟩
          · rw [nv_len, szl]
            have := nums_len n (st.patch.take i)
            rw [List.length_take] at this
            omega
          · rw [upd_upd, nv_app]; rfl
        · rw [if_neg (by rw [z]; decide)]
      · rintro H' rfl
        rw [List.length_map, D.dims.len, List.take_length]
        have nl := nums_len n st.patch
        refine ⟨_, rfl, DD, _, rfl, .inl (SqL.of upd_same), (by show 1 ≤ sizeLine; decide), fun y hy => ?_⟩
        refine ⟨_, rfl, y, DD, _, _, rfl, rfl, upd_same, at_new upd_same hy, ?_, fun z hz => ?_⟩
        · rw [nv_len, szl]
          show 1 + _ ≤ _
          omega
        · refine k _ z (((Same.new hD).add hy).add hz) (((Same.new hD).add hy).free hz) ?_
          rw [upd_same, nv_len]; rfl
def loadsOf (st : Wqatds.State) (ph : Nat) (p : List Sg.Dimmer) : List Nat := (p.filter fun (d : Sg.Dimmer) => d.phase == ph).map fun (d : Sg.Dimmer) => d.watts * d.gives (st.look.of d.channel)
theorem loads_snoc (st : Wqatds.State) (c : Nat) (p : List Sg.Dimmer) (d : Sg.Dimmer) : loadsOf st c (p ++ [d]) = if (d.phase == c) = true then loadsOf st c p ++ [d.watts * d.gives (st.look.of d.channel)] else loadsOf st c p := by
  unfold loadsOf
  rw [List.filter_append, List.filter_cons, List.filter_nil]
  split
  · rw [List.map_append]; rfl
  · rw [List.append_nil]
theorem loads_len (st : Wqatds.State) (c : Nat) (p : List Sg.Dimmer) : (loadsOf st c p).length ≤ p.length := by
  unfold loadsOf
  rw [List.length_map]
  exact List.length_filter_le _ _
theorem ok_load {f : Addr} {fd : FuncData} (F : Fun K "answer_load" "Desk.answer_load" s_Desk_answer_load f fd) (T : Txt K mg A) (D1 : Dn P w K mg base 1 "is_phase" ["number"] (spWithin 3)) (D2 : Md P w K mg base 4 A.cK "given_now" ["self", "dimmer"] (spNow A)) :
    FnOk P w K mg base CX0 5 f fd ["self", "phase"] (spA1 A .load) := by
  refine F.ok sc_Desk_answer_load (fun vs H Q E h => ?_) (fun cdv B outer s H vs Q E hr h => ?_)
  · obtain ⟨k, l, m, as, st, n, rfl, _⟩ := h
    rfl
  · obtain ⟨ka, l, m, as, st, n, rfl, D, k⟩ := h
    obtain ⟨dx, hk⟩ := D.obj
    have nd := sc_Desk_answer_load.nd
    have hr1 : Room 1 _ := hr.mono (by decide)
    refine ⟨_, pss_cons (ps_if (pt_not (pt_val (pe_dn D1 hr1 (pa_cons (pv 1) pa_nil)))) (pss_one (ps_ret (pe_lst (pa_cons (pk T.i19) pa_nil)))) pss_nil)
      (pss_one (ps_ret (pe_lst (pa_cons (pe_callB (cr_sum rfl) rfl T.b7 PyProof.Rows.boot_sum (pa_cons (pe_lc (own := [("dimmer", 2)]) (tt := tTest (tOp rEq (tFld K (tVar 2) "phase") (tVar 1))) (te := tOp (rI CMul fun i j => .int (i * j)) (tFld K (tVar 2) "load") (tMeth A.cK "given_now" (spNow A) [] E0 (tVar 0) (tCons (tVar 2) tNil))) rfl nd (pi_list (pe_fld (pv 0) rfl)) (blkOk_by (by show blkC ["self", "phase", "dimmer"] (defScope s_Desk_answer_load) _ [("dimmer", 2)] = true; decide +kernel))
        (fun s H C cl fp => pg_name (i := 2) nd rfl (Or.inl rfl)) (fun _ _ _ _ _ => pts_one (pt_cmpR op_eq (pe_fld (pv 2) (by rfl)) (pv 1) (nomark _))) (fun s H C cl fp => pe_op op_mul (pe_fld (pv 2) (by rfl)) (pe_md D2 T.clK hr (pv 0) (pa_cons (pv 2) pa_nil)))) pa_nil)) pa_nil)))), ?_⟩
    refine ⟨_, rfl, n, rfl, _, rfl, ifB (fun z => ?_) (fun z => ?_)⟩
    · have z : Sg.within 1 3 n = false := by simpa using z
      exact ret1 (Same.refl H) k (by show (if Sg.within 1 3 n = false then _ else _) = _; rw [if_pos z]; rfl)
    · have z : Sg.within 1 3 n = true := by simpa using z
      have e0 : Wqatds.told st (.load n) = Wqatds.says ((loadsOf st n st.patch).sum : Nat) := by show (if Sg.within 1 3 n = false then _ else _) = _; rw [if_neg (by rw [z]; decide)]; rfl
      have pl := D.good.len
      refine ⟨_, rfl, ka, _, dx, _, _, rfl, hk, T.clK, T.nK1, kfs1 _ _, l, rfl, ⟨_, SqL.of D.dl⟩, fun DD hD => lc_list (K := K) (a := l) (xs := as.map V.ref) (fun i H' => H' = upd H DD (.lst (nv (loadsOf st n (st.patch.take i))))) rfl (fun i H' _ e => by subst e; exact SqL.of (at_new D.dl hD)) ?_ ?_⟩
      · rintro i y H' hy rfl
        obtain ⟨x, hx, rfl⟩ := ref_of hy
        obtain ⟨d, hd, dy, hxd⟩ := D.dims.get hx
        have dok : d.ok = true := D.good.ok d (List.mem_of_getElem? hd)
        obtain ⟨_, _, _, _, p5, _⟩ := Mx.ok_parts dok
        have sm : Same H (upd H DD (.lst (nv (loadsOf st n (st.patch.take i))))) := Same.new hD
        refine ⟨rfl, _, rfl, x, _, dy, _, _, rfl, sm _ _ hxd, T.clD, T.nD6, dfs6 _, _, rfl, rfl, _, rfl, ?_⟩
        rw [dec_nat, take_snoc hd, loads_snoc]
        refine ifB (fun z => ?_) (fun z => ?_)
        · rw [if_pos z]
          refine ⟨_, rfl, x, _, dy, _, _, rfl, sm _ _ hxd, T.clD, T.nD5, dfs5 _, _, rfl, ka, dx, _, rfl, sm _ _ hk, kfs_no (by decide) (by decide), _, rfl, ka, l, m, as, st, x, d, rfl, D.same sm, ⟨dy, sm _ _ hxd⟩, dok, _, _, rfl, rfl, .inl ⟨by omega, by omega⟩, _, upd_same, ?_, ?_⟩
          · rw [nv_len, szl]
            have := loads_len st n (st.patch.take i)
            rw [List.length_take] at this
            omega
          · rw [upd_upd, nv_app]; rfl
        · rw [if_neg (by rw [z]; decide)]
      · rintro H' rfl
        rw [List.length_map, D.dims.len, List.take_length]
        refine ⟨DD, zs (loadsOf st n st.patch), rfl, SqL.of (by rw [upd_same, nv_zs]), ?_⟩
        rw [zs_sum]
        exact ret1 (Same.new hD) k e0
def spEv (A : Ad) : Sp := fun vs H Q _ => ∃ (k l m : Addr) (as : List Addr) (st : Wqatds.State) (a : Addr) (ws : List Nat), vs = [.ref k, .ref a] ∧ DeskAt A H k l m as st ∧ H a = some (.lst (nv ws)) ∧ ws.length ≤ 100000 ∧
  ∀ (H' : Hp) (q : Addr), Same H H' → H q = none → H' q = some (.lst (iv (an (Wqatds.told st (.evenly ws))))) → Q (.ref q) H'
theorem ok_evenly {f : Addr} {fd : FuncData} (F : Fun K "answer_evenly" "Desk.answer_evenly" s_Desk_answer_evenly f fd) (T : Txt K mg A) (D1 : Dn P w K mg base 1 "can_be_dealt" ["loads"] (spCan K)) (D2 : Dn P w K mg base 5 "deal_evenly" ["loads"] (spDeal A)) :
    FnOk P w K mg base CX0 6 f fd ["self", "loads"] (spEv A) := by
  refine F.ok sc_Desk_answer_evenly (fun vs H Q E h => ?_) (fun cdv B outer s H vs Q E hr h => ?_)
  · obtain ⟨k, l, m, as, st, a, ws, rfl, _⟩ := h
    rfl
  · obtain ⟨ka, l, m, as, st, a, ws, rfl, D, ha, hl, k⟩ := h
    have nd := sc_Desk_answer_evenly.nd
    have hr1 : Room 1 _ := hr.mono (by decide)
    refine ⟨_, pss_cons (ps_if (pt_not (pt_val (pe_dn D1 hr1 (pa_cons (pv 1) pa_nil)))) (pss_one (ps_ret (pe_lst (pa_cons (pk T.i19) pa_nil)))) pss_nil)
      (pss_cons (ps_set (i := 2) nd rfl (Or.inl rfl) (pe_dn D2 hr (pa_cons (pv 1) pa_nil)))
      (pss_one (ps_ret (pe_op op_cat (pe_lst (pa_cons (pe_callB (cr_max rfl) rfl T.b8 PyProof.Rows.boot_max (pa_cons (pe_fld (pv 2) rfl) pa_nil)) pa_nil)) (pe_fld (pv 2) rfl))))), ?_⟩
    have e0 : Wqatds.told st (.evenly ws) = if Wqatds.LOADS < ws.length ∨ (ws.all fun (w : Nat) => decide (w ≤ 5000)) = false then Wqatds.BAD else Wqatds.tells ((Sg.evenly ws).1 : Nat) (Sg.evenly ws).2 := rfl
    refine ⟨_, rfl, a, ws, rfl, SqL.of ha, hl, fun H1 s1 => ⟨_, rfl, ifB (fun z => ?_) (fun z => ?_)⟩⟩
    · have z : (decide (ws.length ≤ 9) && ws.all fun x => decide (x ≤ 5000)) = false := not_t z
      rw [if_pos (by
        show 9 < ws.length ∨ _
        rw [Bool.and_eq_false_iff] at z
        rcases z with z | z
        · exact .inl (by have := of_decide_eq_false z; omega)
        · exact .inr z)] at e0
      exact ret1 s1 k e0
    · have z : (decide (ws.length ≤ 9) && ws.all fun x => decide (x ≤ 5000)) = true := not_f z
      rw [Bool.and_eq_true, decide_eq_true_iff] at z
      rw [if_neg (by
        show ¬ (9 < ws.length ∨ _)
        rintro (y | y)
        · omega
        · rw [z.2] at y; cases y)] at e0
      rw [e0, iv_an] at k
      refine ⟨_, rfl, a, ws, rfl, s1 _ _ ha, z.1, fun H2 q s2 ⟨dx, sa, fa, g1, g2, g3⟩ top => ?_⟩
      have gz : SqL K H2 sa ((zs (S3 ws (Sg.evenly ws).2)).map V.int) := by rw [← nv_zs]; exact SqL.of g2
      refine ⟨_, rfl, q, _, dx, _, _, rfl, g1, T.clL, T.nL1, lfs1 _ _, sa, zs (S3 ws (Sg.evenly ws).2), rfl, gz, by simp [zs, S3], fun mm hm1 hm2 => ?_⟩
      have em := top_is hm1 hm2
      subst em
      rw [top]
      refine ⟨(by show 1 ≤ sizeLine; decide), fun y hy => ?_⟩
      refine ⟨_, rfl, q, _, dx, _, _, rfl, at_new g1 hy, T.clL, T.nL2, lfs2 _ _, y, fa, _, _, rfl, rfl, upd_same, at_new g3 hy, ?_, fun p hp => ?_⟩
      · rw [nv_len, szl]
        have hlen : (Sg.evenly ws).2.length ≤ 9 := by
          have := Mx.even_len ws
          omega
        show 1 + _ ≤ _
        omega
      · refine k _ p (((s1.trans s2).add hy).add hp) (((s1.trans s2).add hy).free hp) ?_
        rw [upd_same]; rfl
/-! ### the calls that write -/
def spSet (A : Ad) : Sp := fun vs H Q _ => ∃ (k l m : Addr) (as : List Addr) (st : Wqatds.State) (c j : Nat), vs = [.ref k, .int c, .int j] ∧ DeskAt A H k l m as st ∧ l ≠ m ∧
  ∀ (H' : Hp) (q : Addr), DeskAt A H' k l m as (Wqatds.step st (.set c j)).1 → (∀ b o, H b = some o → b ≠ m → H' b = some o) → H q = none → H' q = some (.lst (iv (an (Wqatds.step st (.set c j)).2))) → Q (.ref q) H'
theorem ok_set {f : Addr} {fd : FuncData} (F : Fun K "answer_set" "Desk.answer_set" s_Desk_answer_set f fd) (T : Txt K mg A) (D1 : Dn P w K mg base 1 "is_channel" ["number"] (spWithin 64)) :
    FnOk P w K mg base CX0 2 f fd ["self", "channel", "level"] (spSet A) := by
  refine F.ok sc_Desk_answer_set (fun vs H Q E h => ?_) (fun cdv B outer s H vs Q E hr h => ?_)
  · obtain ⟨k, l, m, as, st, c, j, rfl, _⟩ := h
    rfl
  · obtain ⟨ka, l, m, as, st, c, j, rfl, D, lm, k⟩ := h
    obtain ⟨dx, hk⟩ := D.obj
    refine ⟨_, pss_cons (ps_if (PW.pt (pw_or (pt_not (pt_val (pe_dn D1 hr (pa_cons (pv 1) pa_nil)))) (pw_or1 (pt_cmpR op_gt (pv 2) (pk T.i14) (nomark _))))) (pss_one (ps_ret (pe_lst (pa_cons (pk T.i19) pa_nil)))) pss_nil)
      (pss_cons (ps_asg (pv 2) (pg_sub (pe_fld (pv 0) rfl) (pe_op op_sub (pv 1) pe_int) set_list))
      (pss_one (ps_ret (pe_lst (pa_cons pe_int pa_nil))))), ?_⟩
    have e0 : Wqatds.step st (.set c j) = if Sg.within 1 64 c = false ∨ 100 < j then (st, Wqatds.BAD) else ({ st with look := st.look.with_ c j }, Wqatds.says 0) := rfl
    have bad : (Sg.within 1 64 c = false ∨ 100 < j) → ([V.int (-1)].length ≤ sizeLine ∧ ∀ p, H p = none → Q (.ref p) (upd H p (.lst [V.int (-1)]))) := fun h => by
      rw [if_pos h] at e0
      rw [e0] at k
      exact ⟨by show 1 ≤ sizeLine; decide, fun p hp => k _ p (D.same (Same.new hp)) (fun b o e _ => at_new e hp) hp upd_same⟩
    refine ⟨_, rfl, c, rfl, _, rfl, ifB (fun z => iteT (bad (.inl (by simpa using z)))) (fun z => ⟨_, rfl, _, _, rfl, rfl, _, rfl, ifB (fun z2 => bad (.inr (by have := of_decide_eq_true z2; omega))) (fun z2 => ?_)⟩)⟩
    have z : Sg.within 1 64 c = true := by simpa using z
    have z2 := of_decide_eq_false z2
    have zz : 1 ≤ c ∧ c ≤ 64 := by
      unfold Sg.within at z
      rw [Bool.and_eq_true, decide_eq_true_iff, decide_eq_true_iff] at z
      exact z
    rw [if_neg (by rw [z]; rintro (y | y); · cases y
                   · omega)] at e0
    rw [e0] at k
    have hlen := D.len
    refine ⟨_, rfl, _, rfl, ka, _, dx, _, _, rfl, hk, T.clK, T.nK2, kfs2 _ _, _, rfl, _, _, rfl, rfl, m, _, _, c - 1, rfl, rfl, D.lv, ?_, ?_⟩
    · rw [nv_len, hlen]
      unfold ixN
      rw [if_pos (by omega), if_pos (by omega)]
      congr 1
      omega
    · rw [nv_set]
      refine ⟨by show 1 ≤ sizeLine; decide, fun p hp => ?_⟩
      have km : ∀ b o, H b = some o → b ≠ m → upd H m (.lst (nv (st.look.set (c - 1) j))) b = some o := fun b o e hb => by rw [upd_ne hb]; exact e
      have pm : p ≠ m := fun q => by rw [q, upd_same] at hp; cases hp
      have hp0 : H p = none := by rw [upd_ne pm] at hp; exact hp
      have kk : ∀ {b C dy fs}, H b = some (.ins C dy fs) → upd H m (.lst (nv (st.look.set (c - 1) j))) b = some (.ins C dy fs) := fun e => km _ _ e (ne_of e D.lv (by intro q; cases q))
      refine k _ p ⟨⟨dx, at_new (kk hk) hp⟩, at_new (km _ _ D.dl lm) hp, at_new upd_same hp, ?_, ?_, ⟨D.dims.len, fun i a d e1 e2 => ?_⟩, D.good⟩ (fun b o e hb => at_new (km b o e hb) hp) hp0 upd_same
      · show (st.look.set (c - 1) j).length = 64
        rw [List.length_set]; exact D.len
      · intro x hx
        rcases List.mem_or_eq_of_mem_set hx with hx | hx
        · exact D.low x hx
        · omega
      · obtain ⟨dy, hy⟩ := D.dims.at_ i a d e1 e2
        exact ⟨dy, at_new (kk hy) hp⟩
end
end Sl
end
section
set_option Elab.async false
set_option linter.all false
set_option maxRecDepth 100000
namespace Sl
open PySem PySem.Spec PyProof.Rows L2 TL
section
variable {P : Program} {w : World} {K : PySem.W.Frag} {mg : Str → Option Value} {base : Heap} {A : Ad}
def DnX (P : Program) (w : World) (K : PySem.W.Frag) (mg : Str → Option Value) (base : Heap) (C : Addr) (k : Nat) (x : Str) (ps : List Str) (sp : Sp) : Prop :=
  ∃ f fd, FnOk P w K mg base (CXF P w C) k f fd ps sp ∧ mg x = some (.ref f) ∧ PySem.W.keepIn K (.ref f) = true ∧ Binds K fd ps []
theorem dfs_kfs {d : Sg.Dimmer} {C C' dx dy l m : Addr} : HO.ins C dx (dfs d) ≠ HO.ins C' dy (kfs l m) := fun z => by
  injection z with _ _ z
  exact absurd (congrArg List.length z) (by show ¬ 6 = 2; decide)
theorem dfs_rfs {d : Sg.Dimmer} {C C' dx dy a : Addr} {p : Nat} : HO.ins C dx (dfs d) ≠ HO.ins C' dy (rfs a p) := fun z => by
  injection z with _ _ z
  exact absurd (congrArg List.length z) (by show ¬ 6 = 2; decide)
theorem kfs_rfs {C C' dx dy a l m : Addr} {p : Nat} : HO.ins C dx (kfs l m) ≠ HO.ins C' dy (rfs a p) := fun z => by
  injection z with _ _ z
  unfold kfs rfs at z
  injection z with z _
  injection z with z _
  exact absurd z (by decide)
def spPatch (K : PySem.W.Frag) (A : Ad) : Sp := fun vs H Q _ => ∃ (k l m : Addr) (as : List Addr) (st : Wqatds.State) (a : Addr) (t : Sg.Bytes), vs = [.ref k, .ref a] ∧ DeskAt A H k l m as st ∧ SqL K H a (bv t) ∧ t.length ≤ 80000 ∧
  ∀ (H' : Hp) (q l' : Addr) (as' : List Addr), DeskAt A H' k l' m as' (Wqatds.step st (.patch t)).1 → (l' = l ∨ H l' = none) → (∀ b o, H b = some o → b ≠ k → H' b = some o) → H q = none → H' q = some (.lst (iv (an (Wqatds.step st (.patch t)).2))) → Q (.ref q) H'
theorem read_good {t : Sg.Bytes} {ds : Sg.Patch} (h : Sg.readPatch t = .ok ds) : Mx.Good ds := Mx.lines_good (Sg.split 10 t) 0 [] ds Mx.Good.nil h
theorem ok_patch {f : Addr} {fd : FuncData} (F : Fun K "answer_patch" "Desk.answer_patch" s_Desk_answer_patch f fd) (T : Txt K mg A) (D1 : DnX P w K mg base A.cT 4 "read_patch" ["text"] (spRead K A)) :
    FnOk P w K mg base CX0 5 f fd ["self", "text"] (spPatch K A) := by
  obtain ⟨fr, fdr, FR, mR, kR, bR⟩ := D1
  refine F.ok sc_Desk_answer_patch (fun vs H Q E h => ?_) (fun cdv B outer s H vs Q E hr h => ?_)
  · obtain ⟨k, l, m, as, st, a, t, rfl, _⟩ := h
    rfl
  · obtain ⟨ka, l, m, as, st, a, t, rfl, D, hs, hl, k⟩ := h
    obtain ⟨dx, hk⟩ := D.obj
    have nd := sc_Desk_answer_patch.nd
    refine ⟨_, pss_cons (ps_if (pt_cmpR op_gt (pe_len T.b1 (pv 1)) (pk T.i17) (nomark _)) (pss_one (ps_ret (pe_lst (pa_cons (pk T.i20) pa_nil)))) pss_nil)
      (pss_cons (ps_tryX (i := 2) (j := 3) (ts := tRet (tLst (tCons (tC (.int (-6))) (tCons (tXFld K A.cT A.nT (tVar 3) "line") (tCons (tXFld K A.cT A.nT (tVar 3) "why") tNil))))) T.xT FR hr bR rfl mR kR rfl T.mT (pa_cons (pv 1) pa_nil) nd rfl (Or.inl rfl) rfl rfl rfl rfl
        (fun x => pss_one (ps_ret (pe_lst (pa_cons (pk T.i23) (pa_cons (pe_xfld T.xT (pv 3) (by rfl)) (pa_cons (pe_xfld T.xT (pv 3) (by rfl)) pa_nil)))))))
      (pss_cons (ps_fld (pv 0) (pv 2) rfl)
      (pss_one (ps_ret (pe_lst (pa_cons (pe_len T.b1 (pv 2)) pa_nil)))))), ?_⟩
    have e0 : Wqatds.step st (.patch t) = if 8192 < t.length then (st, Wqatds.says (-2)) else (match Sg.readPatch t with
      | .error e => (st, Wqatds.tells (-6) [e.1, e.2])
      | .ok p => (⟨p, st.look⟩, Wqatds.says (p.length : Nat))) := rfl
    refine ⟨_, rfl, a, _, rfl, .inl hs, _, _, rfl, rfl, _, rfl, ifB (fun z => ?_) (fun z => ?_)⟩
    · have z := of_decide_eq_true z
      rw [bv_len] at z
      rw [if_pos (by omega)] at e0
      rw [e0] at k
      exact ⟨by show 1 ≤ sizeLine; decide, fun p hp => k _ p l as (D.same (Same.new hp)) (.inl rfl) (fun b o e _ => at_new e hp) hp upd_same⟩
    · have z := of_decide_eq_false z
      rw [bv_len] at z
      rw [if_neg (by omega)] at e0
      refine ⟨_, rfl, a, t, rfl, hs, hl, fun H1 q as' ds s1 nq er hq dd => ?_, fun H1 dxf n y s1 er fa => ?_⟩
      · rw [er] at e0
        have e0 : Wqatds.step st (.patch t) = (⟨ds, st.look⟩, Wqatds.says (ds.length : Nat)) := e0
        rw [e0] at k
        refine ⟨_, rfl, _, rfl, ka, _, dx, _, rfl, s1 _ _ hk, T.clK, T.nK1, (by show 2 < 1000; decide), ?_⟩
        rw [kfs_put]
        have hk1 := s1 _ _ hk
        have kp : ∀ b o, H1 b = some o → b ≠ ka → upd H1 ka (.ins A.cK dx (kfs q m)) b = some o := fun b o e hb => by rw [upd_ne hb]; exact e
        have qk : q ≠ ka := ne_of hq hk1 (by intro z; cases z)
        have mk : m ≠ ka := ne_of (s1 _ _ D.lv) hk1 (by intro z; cases z)
        refine ⟨_, rfl, q, _, rfl, .inl (SqL.of (kp _ _ hq qk)), (by show 1 ≤ sizeLine; decide), fun p hp => ?_⟩
        have pk : p ≠ ka := fun z => by rw [z, upd_same] at hp; cases hp
        have hp1 : H1 p = none := by rw [upd_ne pk] at hp; exact hp
        refine k _ p q as' ⟨⟨dx, at_new upd_same hp⟩, at_new (kp _ _ hq qk) hp, at_new (kp _ _ (s1 _ _ D.lv) mk) hp, D.len, D.low, ⟨dd.len, fun i b d h1 h2 => ?_⟩, read_good er⟩ (.inr nq) (fun b o e hb => at_new (kp b o (s1 _ _ e) hb) hp) (s1.free hp1) ?_
        · obtain ⟨dy, hy⟩ := dd.at_ i b d h1 h2
          exact ⟨dy, at_new (kp _ _ hy (ne_of hy hk1 dfs_kfs)) hp⟩
        · rw [upd_same, List.length_map, dd.len]; rfl
      · rw [er] at e0
        have e0 : Wqatds.step st (.patch t) = (st, Wqatds.tells (-6) [n, y]) := e0
        rw [e0] at k
        obtain ⟨fs, g1, g2, g3⟩ := fa.ex
        refine ⟨dxf, rfl, fun x hx => ?_⟩
        refine ⟨_, rfl, x, dxf, fs, _, rfl, upd_same, at_new g1 hx, T.xT1, g2, _, rfl, x, dxf, fs, _, rfl, upd_same, at_new g1 hx, T.xT2, g3, (by show 3 ≤ sizeLine; decide), fun p hp => ?_⟩
        have s2 := s1.add (o := XE x A.cT dxf) hx
        exact k _ p l as (D.same (s2.add hp)) (.inl rfl) (fun b o e _ => s2.add hp _ _ e) (s2.free hp) upd_same
/-! ### one call -/
/-- a call as it stands in the list -/
inductive Cl : List (List Int) → Wqatds.Call → Prop
  | patch (t : Sg.Bytes) : Cl [[0], bz t] (.patch t)
  | print : Cl [[1]] .print
  | set (c j : Nat) : Cl [[2, c, j]] (.set c j)
  | level (c : Nat) : Cl [[3, c]] (.level c)
  | out (d : Nat) : Cl [[4, d]] (.out d)
  | outs : Cl [[5]] .outs
  | channel (c : Nat) : Cl [[6, c]] (.channel c)
  | needs (d j : Nat) : Cl [[7, d, j]] (.needs d j)
  | load (p : Nat) : Cl [[8, p]] (.load p)
  | evenly (ws : List Nat) : Cl [[9], zs ws] (.evenly ws)
theorem DeskAt.rd {H H' : Hp} {k l m r a dx : Addr} {p : Nat} {as : List Addr} {st : Wqatds.State} (D : DeskAt A H k l m as st) (hr : H r = some (.ins A.cR dx (rfs a p))) (kp : ∀ b o, H b = some o → b ≠ r → H' b = some o) : DeskAt A H' k l m as st := by
  obtain ⟨dk, hk⟩ := D.obj
  refine ⟨⟨dk, kp _ _ hk (ne_of hk hr kfs_rfs)⟩, kp _ _ D.dl (ne_of D.dl hr (by intro z; cases z)), kp _ _ D.lv (ne_of D.lv hr (by intro z; cases z)), D.len, D.low, ⟨D.dims.len, fun i b d e1 e2 => ?_⟩, D.good⟩
  obtain ⟨dy, hy⟩ := D.dims.at_ i b d e1 e2
  exact ⟨dy, kp _ _ hy (ne_of hy hr dfs_rfs)⟩
/-- what is wanted behind a call -/
def Post (A : Ad) (H : Hp) (k l m r a dx : Addr) (p : Nat) (st : Wqatds.State) (x : Wqatds.Call) (Q : VK) : Prop :=
  ∀ (H' : Hp) (q l' : Addr) (as' : List Addr), DeskAt A H' k l' m as' (Wqatds.step st x).1 → (l' = l ∨ H l' = none) → H' r = some (.ins A.cR dx (rfs a p)) → (∀ b o, H b = some o → b ≠ k → b ≠ m → b ≠ r → H' b = some o) → H q = none → H' q = some (.lst (iv (an (Wqatds.step st x).2))) → Q (.ref q) H'
theorem Post.ask {H H1 : Hp} {k l m r a dx : Addr} {p : Nat} {as : List Addr} {st : Wqatds.State} {x : Wqatds.Call} {Q : VK} (h : Post A H k l m r a dx p st x Q) (hx : Wqatds.step st x = (st, Wqatds.told st x)) (D : DeskAt A H1 k l m as st)
    (kp : ∀ b o, H b = some o → b ≠ r → H1 b = some o) (hr1 : H1 r = some (.ins A.cR dx (rfs a p))) : ∀ (H' : Hp) (q : Addr), Same H1 H' → H1 q = none → H' q = some (.lst (iv (an (Wqatds.told st x)))) → Q (.ref q) H' := by
  intro H' q sm nq hq
  unfold Post at h
  rw [hx] at h
  refine h H' q l as (D.same sm) (.inl rfl) (sm _ _ hr1) (fun b o e _ _ hb => sm _ _ (kp b o e hb)) ?_ hq
  cases e : H q with
  | none => rfl
  | some o =>
    by_cases z : q = r
    · rw [z, hr1] at nq; cases nq
    · rw [kp q o e z] at nq; cases nq
def spNextA (K : PySem.W.Frag) (A : Ad) : Sp := fun vs H Q _ => ∃ (k l m : Addr) (as : List Addr) (st : Wqatds.State) (r a dx : Addr) (p : Nat) (ns : List Int) (c : List (List Int)) (x : Wqatds.Call) (t : List Int), vs = [.ref k, .ref r] ∧ DeskAt A H k l m as st ∧ l ≠ m ∧
  H r = some (.ins A.cR dx (rfs a p)) ∧ SqL K H a (iv ns) ∧ ns.length ≤ 60000 ∧ ns.drop p = PyFlat.put1 c ++ t ∧ Cl c x ∧ Post A H k l m r a dx (p + (PyFlat.put1 c).length) st x Q
theorem iv_at {ns l t : List Int} {p i : Nat} {z : Int} (h : ns.drop p = l ++ t) (hz : l[i]? = some z) : (iv ns)[p + i]? = some (V.int z) := by
  unfold iv
  rw [List.getElem?_map]
  have e : ns[p + i]? = some z := by
    rw [← List.getElem?_drop, h, List.getElem?_append_left (List.getElem?_eq_some_iff.mp hz).1]; exact hz
  rw [e]; rfl
theorem iv_row {ns row t : List Int} {z0 z1 : Int} {p : Nat} (h : ns.drop p = (z0 :: z1 :: row) ++ t) : ((iv ns).drop (p + 1 + 1)).take row.length = iv row := by
  unfold iv
  have e : ns.drop (p + 1 + 1) = row ++ t := by
    rw [show p + 1 + 1 = p + 2 by omega, ← List.drop_drop, h]; rfl
  rw [← List.map_drop, e, List.map_append, List.take_append_of_le_length (by rw [List.length_map]; exact Nat.le_refl _), List.take_of_length_le (by rw [List.length_map]; exact Nat.le_refl _)]
end
end Sl
end
section
set_option Elab.async false
set_option linter.all false
set_option maxRecDepth 100000
namespace Sl
open PySem PySem.Spec PyProof.Rows L2 TL
section
variable {P : Program} {w : World} {K : PySem.W.Frag} {mg : Str → Option Value} {base : Heap} {A : Ad}
theorem iv_bz (t : Sg.Bytes) : iv (bz t) = bv t := (bv_bz t).symm
theorem iv_zs (ws : List Nat) : iv (zs ws) = nv ws := (nv_zs ws).symm
/-- the methods that a call is handed to -/
structure Calls (P : Program) (w : World) (K : PySem.W.Frag) (mg : Str → Option Value) (base : Heap) (A : Ad) : Prop where
  num : Md P w K mg base 1 A.cR "take_number" ["self"] (spNum K A)
  row : Md P w K mg base 2 A.cR "take_row" ["self"] (spRow K A)
  patch : Md P w K mg base 5 A.cK "answer_patch" ["self", "text"] (spPatch K A)
  print : Md P w K mg base 4 A.cK "answer_print" ["self"] (spA0 A .print)
  set : Md P w K mg base 2 A.cK "answer_set" ["self", "channel", "level"] (spSet A)
  level : Md P w K mg base 2 A.cK "answer_level" ["self", "channel"] (spA1 A .level)
  out : Md P w K mg base 5 A.cK "answer_out" ["self", "number"] (spA1 A .out)
  outs : Md P w K mg base 5 A.cK "answer_outs" ["self"] (spA0 A .outs)
  channel : Md P w K mg base 2 A.cK "answer_channel" ["self", "channel"] (spA1 A .channel)
  needs : Md P w K mg base 5 A.cK "answer_needs" ["self", "number", "much"] (spA2 A .needs)
  load : Md P w K mg base 5 A.cK "answer_load" ["self", "phase"] (spA1 A .load)
  evenly : Md P w K mg base 6 A.cK "answer_evenly" ["self", "loads"] (spEv A)
set_option maxHeartbeats 4000000 in
theorem ok_nextA {f : Addr} {fd : FuncData} (F : Fun K "answer_next" "answer_next" s_answer_next f fd) (T : Txt K mg A) (C : Calls P w K mg base A) : FnOk P w K mg base CX0 7 f fd ["desk", "reader"] (spNextA K A) := by
  refine F.ok sc_answer_next (fun vs H Q E h => ?_) (fun cdv B outer s H vs Q E hr6 h => ?_)
  · obtain ⟨k, l, m, as, st, r, a, dx, p, ns, c, x, t, rfl, _⟩ := h
    rfl
  · obtain ⟨ka, l, m, as, st, r, a, dx, p, ns, c, x, t, rfl, D, lm, hr, hs, hl, hd, hc, post⟩ := h
    obtain ⟨dk, hk⟩ := D.obj
    have nd := sc_answer_next.nd
    have r1 : Room 1 _ := hr6.mono (by decide)
    have r2 : Room 2 _ := hr6.mono (by decide)
    have r4 : Room 4 _ := hr6.mono (by decide)
    have r5 : Room 5 _ := hr6.mono (by decide)
    refine ⟨_, pss_cons (ps_set (i := 2) nd rfl (Or.inl rfl) (pe_md0 C.num T.clR r1 (pv 1)))
      (pss_cons (ps_if (pt_cmpR op_eq (pv 2) (pk T.j0) (nomark _)) (pss_one (ps_ret (pe_md C.patch T.clK r5 (pv 0) (pa_cons (pe_md0 C.row T.clR r2 (pv 1)) pa_nil)))) pss_nil)
      (pss_cons (ps_if (pt_cmpR op_eq (pv 2) (pk T.j1) (nomark _)) (pss_one (ps_ret (pe_md0 C.print T.clK r4 (pv 0)))) pss_nil)
      (pss_cons (ps_if (pt_cmpR op_eq (pv 2) (pk T.j2) (nomark _)) (pss_cons (ps_set (i := 3) nd rfl (Or.inl rfl) (pe_md0 C.num T.clR r1 (pv 1))) (pss_cons (ps_set (i := 4) nd rfl (Or.inl rfl) (pe_md0 C.num T.clR r1 (pv 1))) (pss_one (ps_ret (pe_md C.set T.clK r2 (pv 0) (pa_cons (pv 3) (pa_cons (pv 4) pa_nil))))))) pss_nil)
      (pss_cons (ps_if (pt_cmpR op_eq (pv 2) (pk T.j3) (nomark _)) (pss_one (ps_ret (pe_md C.level T.clK r2 (pv 0) (pa_cons (pe_md0 C.num T.clR r1 (pv 1)) pa_nil)))) pss_nil)
      (pss_cons (ps_if (pt_cmpR op_eq (pv 2) (pk T.j4) (nomark _)) (pss_one (ps_ret (pe_md C.out T.clK r5 (pv 0) (pa_cons (pe_md0 C.num T.clR r1 (pv 1)) pa_nil)))) pss_nil)
      (pss_cons (ps_if (pt_cmpR op_eq (pv 2) (pk T.j5) (nomark _)) (pss_one (ps_ret (pe_md0 C.outs T.clK r5 (pv 0)))) pss_nil)
      (pss_cons (ps_if (pt_cmpR op_eq (pv 2) (pk T.j6) (nomark _)) (pss_one (ps_ret (pe_md C.channel T.clK r2 (pv 0) (pa_cons (pe_md0 C.num T.clR r1 (pv 1)) pa_nil)))) pss_nil)
      (pss_cons (ps_if (pt_cmpR op_eq (pv 2) (pk T.j7) (nomark _)) (pss_cons (ps_set (i := 5) nd rfl (Or.inl rfl) (pe_md0 C.num T.clR r1 (pv 1))) (pss_cons (ps_set (i := 6) nd rfl (Or.inl rfl) (pe_md0 C.num T.clR r1 (pv 1))) (pss_one (ps_ret (pe_md C.needs T.clK r5 (pv 0) (pa_cons (pv 5) (pa_cons (pv 6) pa_nil))))))) pss_nil)
      (pss_cons (ps_if (pt_cmpR op_eq (pv 2) (pk T.j8) (nomark _)) (pss_one (ps_ret (pe_md C.load T.clK r5 (pv 0) (pa_cons (pe_md0 C.num T.clR r1 (pv 1)) pa_nil)))) pss_nil)
      (pss_cons (ps_if (pt_cmpR op_eq (pv 2) (pk T.j9) (nomark _)) (pss_one (ps_ret (pe_md C.evenly T.clK hr6 (pv 0) (pa_cons (pe_md0 C.row T.clR r2 (pv 1)) pa_nil)))) pss_nil)
      (pss_one ps_never))))))))))), ?_⟩
    have kp1 : ∀ b o, H b = some o → b ≠ r → upd H r (.ins A.cR dx (rfs a (p + 1))) b = some o := fun b o e hb => by rw [upd_ne hb]; exact e
    have kp2 : ∀ b o, H b = some o → b ≠ r → upd (upd H r (.ins A.cR dx (rfs a (p + 1)))) r (.ins A.cR dx (rfs a (p + 1 + 1))) b = some o := fun b o e hb => by rw [upd_ne hb]; exact kp1 b o e hb
    have kp3 : ∀ b o, H b = some o → b ≠ r → upd (upd (upd H r (.ins A.cR dx (rfs a (p + 1)))) r (.ins A.cR dx (rfs a (p + 1 + 1)))) r (.ins A.cR dx (rfs a (p + 1 + 1 + 1))) b = some o := fun b o e hb => by rw [upd_ne hb]; exact kp2 b o e hb
    have D1 := D.rd hr kp1
    have D2 := D.rd hr kp2
    have D3 := D.rd hr kp3
    have hs1 : SqL K (upd H r (.ins A.cR dx (rfs a (p + 1)))) a (iv ns) := hs.noins hr
    have hs2 : SqL K (upd (upd H r (.ins A.cR dx (rfs a (p + 1)))) r (.ins A.cR dx (rfs a (p + 1 + 1)))) a (iv ns) := hs1.noins upd_same
    have rk : ka ≠ r := ne_of hk hr kfs_rfs
    have hk1 := kp1 _ _ hk rk
    have hk2 := kp2 _ _ hk rk
    have hk3 := kp3 _ _ hk rk
    have rm : r ≠ m := ne_of hr D.lv (by intro z; cases z)
    have free : ∀ {H1 : Hp} {q : Addr}, (∀ b o, H b = some o → b ≠ r → H1 b = some o) → (∃ o, H1 r = some o) → H1 q = none → H q = none := fun {H1 q} kp ⟨o1, h1⟩ nq => by
      cases e : H q with
      | none => rfl
      | some o =>
        by_cases z : q = r
        · rw [z, h1] at nq; cases nq
        · rw [kp q o e z] at nq; cases nq
    -- a row is taken
    have tail : ∀ (z : Int) (row : List Int), PyFlat.put1 [[z], row] = z :: (row.length : Int) :: row := fun z row => by show [z] ++ (((row.length : Int) :: row) ++ []) = _; rw [List.append_nil]; rfl
    cases hc with
    | patch tx =>
      rw [tail] at hd post
      have hln : (bz tx).length = tx.length := List.length_map ..
      have hle : p + (tx.length + 2) ≤ ns.length := by
        have := congrArg List.length hd
        simp only [List.length_drop, List.length_append, List.length_cons, hln] at this
        omega
      refine ⟨_, rfl, r, dx, _, rfl, hr, rfs_no (by decide) (by decide), r, a, dx, p, iv ns, V.int 0, rfl, hr, hs, iv_at (i := 0) hd rfl, ?_⟩
      refine ⟨_, rfl, rfl, _, rfl, ifT (by decide +kernel) ?_⟩
      refine ⟨_, rfl, ka, dk, _, rfl, hk1, kfs_no (by decide) (by decide), _, rfl, r, dx, _, rfl, upd_same, rfs_no (by decide) (by decide), r, a, dx, p + 1, (bz tx).length, iv ns, rfl, upd_same, hs1, iv_at (i := 1) hd rfl, (by unfold iv; rw [List.length_map, hln]; omega), fun H2 q nq hq hr2 kq => ?_⟩
      rw [iv_row hd, iv_bz] at hq
      have kpq : ∀ b o, H b = some o → b ≠ r → H2 b = some o := fun b o e hb => kq b o (kp1 b o e hb) hb
      have Dq := D.rd hr kpq
      refine ⟨ka, l, m, as, st, q, tx, rfl, Dq, SqL.of hq, by omega, fun H3 q3 l' as' D' hl' kp' nq3 hq3 => ?_⟩
      refine post H3 q3 l' as' D' ?_ ?_ (fun b o e h1 h2 h3 => kp' b o (kpq b o e h3) h1) (free kpq ⟨_, hr2⟩ nq3) hq3
      · exact hl'.imp id fun z => free kpq ⟨_, hr2⟩ z
      · have := kp' r _ hr2 rk.symm
        rw [this, List.length_cons, List.length_cons, show p + 1 + 1 + (bz tx).length = p + ((bz tx).length + 1 + 1) by omega]
    | print =>
      refine ⟨_, rfl, r, dx, _, rfl, hr, rfs_no (by decide) (by decide), r, a, dx, p, iv ns, V.int 1, rfl, hr, hs, iv_at (i := 0) hd rfl, ?_⟩
      refine ⟨_, rfl, rfl, _, rfl, ifF (by decide +kernel) ?_⟩
      refine ⟨_, rfl, rfl, _, rfl, ifT (by decide +kernel) ?_⟩
      exact ⟨_, rfl, ka, dk, _, rfl, hk1, kfs_no (by decide) (by decide), ka, l, m, as, st, rfl, D1, post.ask rfl D1 kp1 upd_same⟩
    | set n j =>
      refine ⟨_, rfl, r, dx, _, rfl, hr, rfs_no (by decide) (by decide), r, a, dx, p, iv ns, V.int 2, rfl, hr, hs, iv_at (i := 0) hd rfl, ?_⟩
      refine ⟨_, rfl, rfl, _, rfl, ifF (by decide +kernel) ?_⟩
      refine ⟨_, rfl, rfl, _, rfl, ifF (by decide +kernel) ?_⟩
      refine ⟨_, rfl, rfl, _, rfl, ifT (by decide +kernel) ?_⟩
      refine ⟨_, rfl, r, dx, _, rfl, upd_same, rfs_no (by decide) (by decide), r, a, dx, p + 1, iv ns, V.int (n : Nat), rfl, upd_same, hs1, iv_at (i := 1) hd rfl, ?_⟩
      refine ⟨_, rfl, r, dx, _, rfl, upd_same, rfs_no (by decide) (by decide), r, a, dx, p + 1 + 1, iv ns, V.int (j : Nat), rfl, upd_same, hs2, iv_at (i := 2) hd rfl, ?_⟩
      refine ⟨_, rfl, ka, dk, _, rfl, hk3, kfs_no (by decide) (by decide), _, rfl, _, rfl, ka, l, m, as, st, n, j, rfl, D3, lm, fun H4 q D' kp' nq hq => ?_⟩
      exact post H4 q l as D' (.inl rfl) (kp' r _ upd_same rm) (fun b o e _ h2 h3 => kp' b o (kp3 b o e h3) h2) (free kp3 ⟨_, upd_same⟩ nq) hq
    | level n =>
      refine ⟨_, rfl, r, dx, _, rfl, hr, rfs_no (by decide) (by decide), r, a, dx, p, iv ns, V.int 3, rfl, hr, hs, iv_at (i := 0) hd rfl, ?_⟩
      refine ⟨_, rfl, rfl, _, rfl, ifF (by decide +kernel) ?_⟩
      refine ⟨_, rfl, rfl, _, rfl, ifF (by decide +kernel) ?_⟩
      refine ⟨_, rfl, rfl, _, rfl, ifF (by decide +kernel) ?_⟩
      refine ⟨_, rfl, rfl, _, rfl, ifT (by decide +kernel) ?_⟩
      exact ⟨_, rfl, ka, dk, _, rfl, hk1, kfs_no (by decide) (by decide), _, rfl, r, dx, _, rfl, upd_same, rfs_no (by decide) (by decide), r, a, dx, p + 1, iv ns, V.int (n : Nat), rfl, upd_same, hs1, iv_at (i := 1) hd rfl, ka, l, m, as, st, n, rfl, D2, post.ask rfl D2 kp2 upd_same⟩
    | out n =>
      refine ⟨_, rfl, r, dx, _, rfl, hr, rfs_no (by decide) (by decide), r, a, dx, p, iv ns, V.int 4, rfl, hr, hs, iv_at (i := 0) hd rfl, ?_⟩
      refine ⟨_, rfl, rfl, _, rfl, ifF (by decide +kernel) ?_⟩
      refine ⟨_, rfl, rfl, _, rfl, ifF (by decide +kernel) ?_⟩
      refine ⟨_, rfl, rfl, _, rfl, ifF (by decide +kernel) ?_⟩
      refine ⟨_, rfl, rfl, _, rfl, ifF (by decide +kernel) ?_⟩
      refine ⟨_, rfl, rfl, _, rfl, ifT (by decide +kernel) ?_⟩
      exact ⟨_, rfl, ka, dk, _, rfl, hk1, kfs_no (by decide) (by decide), _, rfl, r, dx, _, rfl, upd_same, rfs_no (by decide) (by decide), r, a, dx, p + 1, iv ns, V.int (n : Nat), rfl, upd_same, hs1, iv_at (i := 1) hd rfl, ka, l, m, as, st, n, rfl, D2, post.ask rfl D2 kp2 upd_same⟩
    | outs =>
      refine ⟨_, rfl, r, dx, _, rfl, hr, rfs_no (by decide) (by decide), r, a, dx, p, iv ns, V.int 5, rfl, hr, hs, iv_at (i := 0) hd rfl, ?_⟩
      refine ⟨_, rfl, rfl, _, rfl, ifF (by decide +kernel) ?_⟩
      refine ⟨_, rfl, rfl, _, rfl, ifF (by decide +kernel) ?_⟩
      refine ⟨_, rfl, rfl, _, rfl, ifF (by decide +kernel) ?_⟩
      refine ⟨_, rfl, rfl, _, rfl, ifF (by decide +kernel) ?_⟩
      refine ⟨_, rfl, rfl, _, rfl, ifF (by decide +kernel) ?_⟩
      refine ⟨_, rfl, rfl, _, rfl, ifT (by decide +kernel) ?_⟩
      exact ⟨_, rfl, ka, dk, _, rfl, hk1, kfs_no (by decide) (by decide), ka, l, m, as, st, rfl, D1, post.ask rfl D1 kp1 upd_same⟩
    | channel n =>
      refine ⟨_, rfl, r, dx, _, rfl, hr, rfs_no (by decide) (by decide), r, a, dx, p, iv ns, V.int 6, rfl, hr, hs, iv_at (i := 0) hd rfl, ?_⟩
      refine ⟨_, rfl, rfl, _, rfl, ifF (by decide +kernel) ?_⟩
      refine ⟨_, rfl, rfl, _, rfl, ifF (by decide +kernel) ?_⟩
      refine ⟨_, rfl, rfl, _, rfl, ifF (by decide +kernel) ?_⟩
      refine ⟨_, rfl, rfl, _, rfl, ifF (by decide +kernel) ?_⟩
      refine ⟨_, rfl, rfl, _, rfl, ifF (by decide +kernel) ?_⟩
      refine ⟨_, rfl, rfl, _, rfl, ifF (by decide +kernel) ?_⟩
      refine ⟨_, rfl, rfl, _, rfl, ifT (by decide +kernel) ?_⟩
      exact ⟨_, rfl, ka, dk, _, rfl, hk1, kfs_no (by decide) (by decide), _, rfl, r, dx, _, rfl, upd_same, rfs_no (by decide) (by decide), r, a, dx, p + 1, iv ns, V.int (n : Nat), rfl, upd_same, hs1, iv_at (i := 1) hd rfl, ka, l, m, as, st, n, rfl, D2, post.ask rfl D2 kp2 upd_same⟩
    | needs n j =>
      refine ⟨_, rfl, r, dx, _, rfl, hr, rfs_no (by decide) (by decide), r, a, dx, p, iv ns, V.int 7, rfl, hr, hs, iv_at (i := 0) hd rfl, ?_⟩
      refine ⟨_, rfl, rfl, _, rfl, ifF (by decide +kernel) ?_⟩
      refine ⟨_, rfl, rfl, _, rfl, ifF (by decide +kernel) ?_⟩
      refine ⟨_, rfl, rfl, _, rfl, ifF (by decide +kernel) ?_⟩
      refine ⟨_, rfl, rfl, _, rfl, ifF (by decide +kernel) ?_⟩
      refine ⟨_, rfl, rfl, _, rfl, ifF (by decide +kernel) ?_⟩
      refine ⟨_, rfl, rfl, _, rfl, ifF (by decide +kernel) ?_⟩
      refine ⟨_, rfl, rfl, _, rfl, ifF (by decide +kernel) ?_⟩
      refine ⟨_, rfl, rfl, _, rfl, ifT (by decide +kernel) ?_⟩
      refine ⟨_, rfl, r, dx, _, rfl, upd_same, rfs_no (by decide) (by decide), r, a, dx, p + 1, iv ns, V.int (n : Nat), rfl, upd_same, hs1, iv_at (i := 1) hd rfl, ?_⟩
      refine ⟨_, rfl, r, dx, _, rfl, upd_same, rfs_no (by decide) (by decide), r, a, dx, p + 1 + 1, iv ns, V.int (j : Nat), rfl, upd_same, hs2, iv_at (i := 2) hd rfl, ?_⟩
      exact ⟨_, rfl, ka, dk, _, rfl, hk3, kfs_no (by decide) (by decide), _, rfl, _, rfl, ka, l, m, as, st, n, j, rfl, D3, post.ask rfl D3 kp3 upd_same⟩
    | load n =>
      refine ⟨_, rfl, r, dx, _, rfl, hr, rfs_no (by decide) (by decide), r, a, dx, p, iv ns, V.int 8, rfl, hr, hs, iv_at (i := 0) hd rfl, ?_⟩
      refine ⟨_, rfl, rfl, _, rfl, ifF (by decide +kernel) ?_⟩
      refine ⟨_, rfl, rfl, _, rfl, ifF (by decide +kernel) ?_⟩
      refine ⟨_, rfl, rfl, _, rfl, ifF (by decide +kernel) ?_⟩
      refine ⟨_, rfl, rfl, _, rfl, ifF (by decide +kernel) ?_⟩
      refine ⟨_, rfl, rfl, _, rfl, ifF (by decide +kernel) ?_⟩
      refine ⟨_, rfl, rfl, _, rfl, ifF (by decide +kernel) ?_⟩
      refine ⟨_, rfl, rfl, _, rfl, ifF (by decide +kernel) ?_⟩
      refine ⟨_, rfl, rfl, _, rfl, ifF (by decide +kernel) ?_⟩
      refine ⟨_, rfl, rfl, _, rfl, ifT (by decide +kernel) ?_⟩
      exact ⟨_, rfl, ka, dk, _, rfl, hk1, kfs_no (by decide) (by decide), _, rfl, r, dx, _, rfl, upd_same, rfs_no (by decide) (by decide), r, a, dx, p + 1, iv ns, V.int (n : Nat), rfl, upd_same, hs1, iv_at (i := 1) hd rfl, ka, l, m, as, st, n, rfl, D2, post.ask rfl D2 kp2 upd_same⟩
    | evenly ws =>
      rw [tail] at hd post
      have hln : (zs ws).length = ws.length := List.length_map ..
      have hle : p + (ws.length + 2) ≤ ns.length := by
        have := congrArg List.length hd
        simp only [List.length_drop, List.length_append, List.length_cons, hln] at this
        omega
      refine ⟨_, rfl, r, dx, _, rfl, hr, rfs_no (by decide) (by decide), r, a, dx, p, iv ns, V.int 9, rfl, hr, hs, iv_at (i := 0) hd rfl, ?_⟩
      refine ⟨_, rfl, rfl, _, rfl, ifF (by decide +kernel) ?_⟩
      refine ⟨_, rfl, rfl, _, rfl, ifF (by decide +kernel) ?_⟩
      refine ⟨_, rfl, rfl, _, rfl, ifF (by decide +kernel) ?_⟩
      refine ⟨_, rfl, rfl, _, rfl, ifF (by decide +kernel) ?_⟩
      refine ⟨_, rfl, rfl, _, rfl, ifF (by decide +kernel) ?_⟩
      refine ⟨_, rfl, rfl, _, rfl, ifF (by decide +kernel) ?_⟩
      refine ⟨_, rfl, rfl, _, rfl, ifF (by decide +kernel) ?_⟩
      refine ⟨_, rfl, rfl, _, rfl, ifF (by decide +kernel) ?_⟩
      refine ⟨_, rfl, rfl, _, rfl, ifF (by decide +kernel) ?_⟩
      refine ⟨_, rfl, rfl, _, rfl, ifT (by decide +kernel) ?_⟩
      refine ⟨_, rfl, ka, dk, _, rfl, hk1, kfs_no (by decide) (by decide), _, rfl, r, dx, _, rfl, upd_same, rfs_no (by decide) (by decide), r, a, dx, p + 1, (zs ws).length, iv ns, rfl, upd_same, hs1, iv_at (i := 1) hd rfl, (by unfold iv; rw [List.length_map, hln]; omega), fun H2 q nq hq hr2 kq => ?_⟩
      rw [iv_row hd, iv_zs] at hq
      have kpq : ∀ b o, H b = some o → b ≠ r → H2 b = some o := fun b o e hb => kq b o (kp1 b o e hb) hb
      have Dq := D.rd hr kpq
      refine ⟨ka, l, m, as, st, q, ws, rfl, Dq, hq, by omega, post.ask rfl Dq kpq ?_⟩
      rw [hr2, List.length_cons, List.length_cons, show p + 1 + 1 + (zs ws).length = p + ((zs ws).length + 1 + 1) by omega]
end
end Sl
end
section
set_option Elab.async false
set_option linter.all false
set_option maxRecDepth 100000
namespace Sl
open PySem PySem.Spec PyProof.Rows L2 TL
theorem whole_id (c : List (List Int)) : PyWqatds.whole c = c := by
  unfold PyWqatds.whole
  split <;> rfl
theorem map_whole (cs : List (List (List Int))) : cs.map PyWqatds.whole = cs := by
  have : PyWqatds.whole = id := funext whole_id
  rw [this, List.map_id]
theorem nat_of {z : Int} {b : Nat} (h : WqatdsNeutral.natural z b = true) : ∃ n : Nat, z = (n : Int) := by
  unfold WqatdsNeutral.natural at h
  rw [Bool.and_eq_true, decide_eq_true_iff] at h
  exact ⟨z.toNat, by omega⟩
theorem bz_of : ∀ t : List Int, t.all (fun z => WqatdsNeutral.natural z 8) = true → ∃ b : Sg.Bytes, t = bz b
  | [], _ => ⟨[], rfl⟩
  | z :: t, h => by
    rw [List.all_cons, Bool.and_eq_true] at h
    obtain ⟨b, hb⟩ := bz_of t h.2
    have h1 := h.1
    unfold WqatdsNeutral.natural at h1
    rw [Bool.and_eq_true, decide_eq_true_iff, decide_eq_true_iff] at h1
    refine ⟨UInt8.ofNat z.toNat :: b, ?_⟩
    show _ = (((UInt8.ofNat z.toNat).toNat : Nat) : Int) :: bz b
    rw [← hb, UInt8.toNat_ofNat']
    have : z.toNat % 2 ^ 8 = z.toNat := Nat.mod_eq_of_lt (by have := h1.2; omega)
    rw [this]
    congr 1
    omega
theorem zs_of : ∀ t : List Int, t.all (fun z => WqatdsNeutral.natural z 32) = true → ∃ b : List Nat, t = zs b
  | [], _ => ⟨[], rfl⟩
  | z :: t, h => by
    rw [List.all_cons, Bool.and_eq_true] at h
    obtain ⟨b, hb⟩ := zs_of t h.2
    obtain ⟨n, hn⟩ := nat_of h.1
    refine ⟨n :: b, ?_⟩
    show _ = (n : Int) :: zs b
    rw [hb, hn]
theorem asked_cl {c : List (List Int)} (h : WqatdsNeutral.asked1 c = true) : ∃ x, Cl c x := by
  unfold WqatdsNeutral.asked1 at h
  split at h
  · obtain ⟨b, rfl⟩ := bz_of _ h
    exact ⟨_, .patch b⟩
  · exact ⟨_, .print⟩
  · rw [Bool.and_eq_true] at h
    obtain ⟨n, rfl⟩ := nat_of h.1
    obtain ⟨j, rfl⟩ := nat_of h.2
    exact ⟨_, .set n j⟩
  · obtain ⟨n, rfl⟩ := nat_of h
    exact ⟨_, .level n⟩
  · obtain ⟨n, rfl⟩ := nat_of h
    exact ⟨_, .out n⟩
  · exact ⟨_, .outs⟩
  · obtain ⟨n, rfl⟩ := nat_of h
    exact ⟨_, .channel n⟩
  · rw [Bool.and_eq_true] at h
    obtain ⟨n, rfl⟩ := nat_of h.1
    obtain ⟨j, rfl⟩ := nat_of h.2
    exact ⟨_, .needs n j⟩
  · obtain ⟨n, rfl⟩ := nat_of h
    exact ⟨_, .load n⟩
  · obtain ⟨b, rfl⟩ := zs_of _ h
    exact ⟨_, .evenly b⟩
  · cases h
theorem bytes_bz (t : Sg.Bytes) : WqatdsNeutral.bytes (bz t) = t := by
  unfold WqatdsNeutral.bytes bz
  rw [List.map_map]
  have : ((fun (z : Int) => UInt8.ofNat z.toNat) ∘ fun (c : UInt8) => ((c.toNat : Nat) : Int)) = id := funext fun c => by
    show UInt8.ofNat ((c.toNat : Nat) : Int).toNat = c
    rw [Int.toNat_natCast, UInt8.ofNat_toNat]
  rw [this, List.map_id]
theorem nats_zs (ws : List Nat) : WqatdsNeutral.nats (zs ws) = ws := by
  unfold WqatdsNeutral.nats zs
  rw [List.map_map]
  have : (Int.toNat ∘ fun (n : Nat) => (n : Int)) = id := funext fun n => Int.toNat_natCast n
  rw [this, List.map_id]
theorem step_cl {c : List (List Int)} {x : Wqatds.Call} (h : Cl c x) (st : Wqatds.State) : WqatdsNeutral.step st c = ((Wqatds.step st x).1, an (Wqatds.step st x).2) := by
  have e : WqatdsNeutral.callOf c = some x := by
    cases h with
    | patch t => show some (Wqatds.Call.patch (WqatdsNeutral.bytes (bz t))) = _; rw [bytes_bz]
    | evenly ws => show some (Wqatds.Call.evenly (WqatdsNeutral.nats (zs ws))) = _; rw [nats_zs]
    | print => rfl
    | set c j => show some (Wqatds.Call.set (c : Int).toNat (j : Int).toNat) = _; rw [Int.toNat_natCast, Int.toNat_natCast]
    | level c => show some (Wqatds.Call.level (c : Int).toNat) = _; rw [Int.toNat_natCast]
    | out c => show some (Wqatds.Call.out (c : Int).toNat) = _; rw [Int.toNat_natCast]
    | outs => rfl
    | channel c => show some (Wqatds.Call.channel (c : Int).toNat) = _; rw [Int.toNat_natCast]
    | needs c j => show some (Wqatds.Call.needs (c : Int).toNat (j : Int).toNat) = _; rw [Int.toNat_natCast, Int.toNat_natCast]
    | load c => show some (Wqatds.Call.load (c : Int).toNat) = _; rw [Int.toNat_natCast]
  unfold WqatdsNeutral.step
  rw [e]
  rfl
theorem put1_pos {c : List (List Int)} {x : Wqatds.Call} (h : Cl c x) : 0 < (PyFlat.put1 c).length := by
  cases h <;> simp [PyFlat.put1]
theorem an_len (a : Wqatds.Ans) : (an a).length = a.nums.length + 1 := by unfold an; rw [List.length_cons, List.length_map]
theorem ans_len {st : Wqatds.State} (g : Mx.Good st.patch) (x : Wqatds.Call) : (an (Wqatds.step st x).2).length ≤ 5000 := by
  rw [an_len]
  have h1 := g.text
  have h2 := g.len
  cases x with
  | patch t =>
    unfold Wqatds.step
    dsimp only
    split
    · show 0 + 1 ≤ 5000; decide
    · split
      · show 2 + 1 ≤ 5000; decide
      · show 0 + 1 ≤ 5000; decide
  | print =>
    show (st.patch.text.map _).length + 1 ≤ 5000
    rw [List.length_map]; omega
  | set c j =>
    unfold Wqatds.step
    dsimp only
    split
    · show 0 + 1 ≤ 5000; decide
    · show 0 + 1 ≤ 5000; decide
  | level c =>
    show (Wqatds.told st (.level c)).nums.length + 1 ≤ 5000
    unfold Wqatds.told
    dsimp only
    split
    · show 0 + 1 ≤ 5000; decide
    · show 0 + 1 ≤ 5000; decide
  | out d =>
    show (Wqatds.told st (.out d)).nums.length + 1 ≤ 5000
    unfold Wqatds.told
    dsimp only
    split
    · show 0 + 1 ≤ 5000; decide
    · show 0 + 1 ≤ 5000; decide
  | outs =>
    show (Sg.outs st.patch st.look).length + 1 ≤ 5000
    unfold Sg.outs
    rw [List.length_map]; omega
  | channel c =>
    show (Wqatds.told st (.channel c)).nums.length + 1 ≤ 5000
    unfold Wqatds.told
    dsimp only
    split
    · show 0 + 1 ≤ 5000; decide
    · show (numsOf c st.patch).length + 1 ≤ 5000
      have := nums_len c st.patch
      omega
  | needs d j =>
    show (Wqatds.told st (.needs d j)).nums.length + 1 ≤ 5000
    unfold Wqatds.told
    dsimp only
    split
    · show 0 + 1 ≤ 5000; decide
    · split
      · show 0 + 1 ≤ 5000; decide
      · show 0 + 1 ≤ 5000; decide
  | load p =>
    show (Wqatds.told st (.load p)).nums.length + 1 ≤ 5000
    unfold Wqatds.told
    dsimp only
    split
    · show 0 + 1 ≤ 5000; decide
    · show 0 + 1 ≤ 5000; decide
  | evenly ws =>
    show (Wqatds.told st (.evenly ws)).nums.length + 1 ≤ 5000
    unfold Wqatds.told
    dsimp only
    split
    · show 0 + 1 ≤ 5000; decide
    · rename_i h
      show (Sg.evenly ws).2.length + 1 ≤ 5000
      have := Mx.even_len ws
      have h9 : ¬ 9 < ws.length := fun z => h (.inl z)
      omega
/-- what the list of calls says -/
theorem asked_out {ns : List Int} (h : PyWqatds.answers_asked ns = true) : ∃ cs : List (List (List Int)), ns = PyFlat.put cs ∧ cs.length ≤ 400 ∧ (∀ c ∈ cs, ∃ x, Cl c x) ∧ PyWqatds.answers ns = PyFlat.told (PyFlat.played WqatdsNeutral.step WqatdsNeutral.start cs) := by
  unfold PyWqatds.answers_asked at h
  unfold PyWqatds.answers
  cases e : PyWqatds.calls ns with
  | none => rw [e] at h; cases h
  | some cs =>
    rw [e] at h
    unfold PyWqatds.calls at e
    cases e2 : PyFlat.calls PyWqatds.shape ns.length ns with
    | none => rw [e2] at e; cases e
    | some ds =>
      rw [e2] at e
      have e : ds.map PyWqatds.whole = cs := Option.some.inj e
      rw [map_whole] at e
      subst e
      have h : (PyFlat.atMost 400 ds && WqatdsNeutral.asked ds) = true := h
      rw [Bool.and_eq_true] at h
      have h4 : ds.length ≤ 400 := of_decide_eq_true h.1
      have h5 := h.2
      unfold WqatdsNeutral.asked at h5
      simp only [Bool.and_eq_true] at h5
      refine ⟨ds, (PyFlat.put_calls _ _ _ e2).1, h4, fun c hc => asked_cl (List.all_eq_true.mp h5.1.1.1 c hc), rfl⟩
section
variable {P : Program} {w : World} {K : PySem.W.Frag} {mg : Str → Option Value} {base : Heap} {A : Ad}
theorem DeskAt.tl {H : Hp} {k l m t : Addr} {as : List Addr} {st : Wqatds.State} {xs : List V} {o : HO} (D : DeskAt A H k l m as st) (ht : H t = some (.lst xs)) (tl : t ≠ l) (tm : t ≠ m) : DeskAt A (upd H t o) k l m as st := by
  obtain ⟨dk, hk⟩ := D.obj
  refine ⟨⟨dk, by rw [upd_ne (ne_of hk ht (by intro z; cases z))]; exact hk⟩, by rw [upd_ne tl.symm]; exact D.dl, by rw [upd_ne tm.symm]; exact D.lv, D.len, D.low, ⟨D.dims.len, fun i b d e1 e2 => ?_⟩, D.good⟩
  obtain ⟨dy, hy⟩ := D.dims.at_ i b d e1 e2
  exact ⟨dy, by rw [upd_ne (ne_of hy ht (by intro z; cases z))]; exact hy⟩
def spAns (K : PySem.W.Frag) : Sp := fun vs H Q _ => ∃ (a : Addr) (ns : List Int), vs = [.ref a] ∧ SqL K H a (iv ns) ∧ ns.length ≤ 60000 ∧ PyWqatds.answers_asked ns = true ∧ ∀ (H' : Hp) (p : Addr), H' p = some (.lst (iv (PyWqatds.answers ns))) → Q (.ref p) H'
theorem put_app : ∀ (a b : List (List (List Int))), PyFlat.put (a ++ b) = PyFlat.put a ++ PyFlat.put b
  | [], _ => rfl
  | c :: a, b => by
    show PyFlat.put1 c ++ PyFlat.put (a ++ b) = (PyFlat.put1 c ++ PyFlat.put a) ++ PyFlat.put b
    rw [put_app a b, List.append_assoc]
set_option maxHeartbeats 4000000 in
theorem ok_answers {f : Addr} {fd : FuncData} (F : Fun K "answers" "answers" s_answers f fd) (T : Txt K mg A) (D1 : Cd P w K mg base 1 "Desk" A.cK ["self"] (spKInit A)) (D2 : Cd P w K mg base 1 "CallReader" A.cR ["self", "calls"] (spRInit A))
    (D3 : Md P w K mg base 1 A.cR "at_end" ["self"] (spAtEnd K A)) (D4 : Dn P w K mg base 7 "answer_next" ["desk", "reader"] (spNextA K A)) : FnOk P w K mg base CX0 8 f fd ["calls"] (spAns K) := by
  refine F.ok sc_answers (fun vs H Q E h => ?_) (fun cdv B outer s H vs Q E hr h => ?_)
  · obtain ⟨a, ns, rfl, _⟩ := h
    rfl
  · obtain ⟨a, ns, rfl, hs, hl, hask, k⟩ := h
    obtain ⟨cs, hput, hcs, hcl, hans⟩ := asked_out hask
    have nd := sc_answers.nd
    have r1 : Room 1 _ := hr.mono (by decide)
    have r2 : Room (1 + 1) _ := hr.mono (by decide)
    refine ⟨_, pss_cons (ps_set (i := 1) nd rfl (Or.inl rfl) (pe_cd0 D1 r2))
      (pss_cons (ps_set (i := 2) nd rfl (Or.inl rfl) (pe_cd D2 r2 (pa_cons (pv 0) pa_nil)))
      (pss_cons (ps_set (i := 3) nd rfl (Or.inl rfl) (pe_lst pa_nil))
      (pss_cons (ps_while PassesOwn.never (pt_not (pt_val (pe_md0 D3 T.clR r1 (pv 2))))
        (pss_cons (ps_set (i := 4) nd rfl (Or.inl rfl) (pe_dn D4 hr (pa_cons (pv 1) (pa_cons (pv 2) pa_nil))))
        (pss_cons (ps_expr (pe_bm PySem.F.plainAttrs_list PySem.F.slot_list_append PySem.F.type_list_append mt_append (pv 3) (pa_cons (pe_len T.b1 (pv 4)) pa_nil)))
        (pss_one (ps_expr (pe_bm PySem.F.plainAttrs_list PySem.F.slot_list_extend PySem.F.type_list_extend mt_extend (pv 3) (pa_cons (pv 4) pa_nil)))))))
      (pss_one (ps_ret (pv 3)))))), ?_⟩
    -- desk = Desk()
    intro ka dk nk ndk nek
    have sI : Same H (upd (upd H dk (.own ka)) ka (.ins A.cK dk [])) := fun b u e => by rw [upd_ne (ne_of_none e nk), upd_ne (ne_of_none e ndk)]; exact e
    refine ⟨ka, dk, rfl, upd_same, fun H1 l0 mm g1 g2 g3 nl nm lm kp1 => ⟨rfl, ?_⟩⟩
    have s1 : Same H H1 := fun b o e => kp1 b o (sI b o e) (ne_of_none e nk)
    have nm0 : H mm = none := sI.free nm
    -- reader = CallReader(calls)
    refine ⟨_, rfl, ?_⟩
    intro r dx nr ndr ner
    have s2' : Same H1 (upd (upd (upd H1 dx (.own r)) r (.ins A.cR dx [])) r (.ins A.cR dx (rfs a 0))) := fun b u e => by
      rw [upd_ne (ne_of_none e nr), upd_ne (ne_of_none e nr), upd_ne (ne_of_none e ndr)]; exact e
    refine ⟨r, a, dx, rfl, upd_same, rfl, ?_⟩
    have s2 := s1.trans s2'
    -- told = []
    refine ⟨Nat.zero_le _, fun tt ht => ?_⟩
    have s3' := Same.new (o := .lst []) ht
    have s3 := s2.trans s3'
    have D0 : DeskAt A H1 ka l0 mm [] Wqatds.start := ⟨⟨dk, g1⟩, g2, g3, rfl, fun x hx => by rw [List.mem_replicate.mp hx |>.2]; exact Nat.zero_le _, DimsAt.nil, Mx.Good.nil⟩
    have nr0 : H r = none := s1.free nr
    have nt0 : H tt = none := s2.free ht
    have tm : tt ≠ mm := fun z => by have := s2' _ _ g3; rw [← z, ht] at this; cases this
    have tl0 : tt ≠ l0 := fun z => by have := s2' _ _ g2; rw [← z, ht] at this; cases this
    have ln : ∀ p, (iv ns).length ≤ p ↔ ns.length ≤ p := fun p => by unfold iv; rw [List.length_map]
    refine ⟨fun m σ H' => ∃ (done rest : List (List (List Int))) (l : Addr) (as : List Addr) (st : Wqatds.State) (tld : List Int) (v4 : Option V), cs = done ++ rest ∧ m = rest.length ∧ σ = [some (.ref a), some (.ref ka), some (.ref r), some (.ref tt), v4] ∧ Same H H' ∧
        DeskAt A H' ka l mm as st ∧ l ≠ mm ∧ H' r = some (.ins A.cR dx (rfs a (PyFlat.put done).length)) ∧ H' tt = some (.lst (iv tld)) ∧ tt ≠ l ∧ tld ++ PyFlat.told (PyFlat.played WqatdsNeutral.step st rest) = PyWqatds.answers ns ∧ tld.length ≤ done.length * 5001,
      ⟨cs.length, [], cs, l0, [], Wqatds.start, [], none, rfl, rfl, rfl, s3, (D0.same s2').same s3', lm, s3' _ _ upd_same, upd_same, tl0, by rw [hans]; rfl, Nat.zero_le _⟩, ?_⟩
    rintro m σ H' ⟨done, rest, l, as, st, tld, v4, hcr, rfl, rfl, sm, D, lm', hr', ht', tl, he, hlen⟩
    have hs' := sm.seq hs
    refine ⟨_, rfl, r, dx, _, rfl, hr', rfs_no (by decide) (by decide), r, a, dx, _, iv ns, rfl, hr', hs', _, rfl, ?_⟩
    cases rest with
    | nil =>
      rw [List.append_nil] at hcr
      refine ifF (by rw [decide_eq_true (by rw [ln, hput, hcr]; exact Nat.le_refl _)]; rfl) ?_
      refine ⟨_, rfl, k H' tt ?_⟩
      rw [ht']
      have he : tld ++ [] = PyWqatds.answers ns := he
      rw [List.append_nil] at he
      rw [he]
    | cons c rest =>
      obtain ⟨x, hx⟩ := hcl c (by rw [hcr]; simp)
      have pos := put1_pos hx
      have hns : ns = PyFlat.put done ++ (PyFlat.put1 c ++ PyFlat.put rest) := by rw [hput, hcr, put_app]; rfl
      have hdr : ns.drop (PyFlat.put done).length = PyFlat.put1 c ++ PyFlat.put rest := by rw [hns, List.drop_left]
      refine ifT (by
        rw [decide_eq_false (by
          rw [ln, hns]
          simp only [List.length_append]
          omega)]
        rfl) ?_
      refine ⟨fun σ' H'' => ∃ (l : Addr) (as : List Addr) (st : Wqatds.State) (tld : List Int) (v4 : Option V), σ' = [some (.ref a), some (.ref ka), some (.ref r), some (.ref tt), v4] ∧ Same H H'' ∧
        DeskAt A H'' ka l mm as st ∧ l ≠ mm ∧ H'' r = some (.ins A.cR dx (rfs a (PyFlat.put (done ++ [c])).length)) ∧ H'' tt = some (.lst (iv tld)) ∧ tt ≠ l ∧ tld ++ PyFlat.told (PyFlat.played WqatdsNeutral.step st rest) = PyWqatds.answers ns ∧ tld.length ≤ (done.length + 1) * 5001, ?_, ?_⟩
      · rintro σ' H'' ⟨l, as, st, tld, v4, e1, e2, e3, e4, e5, e6, e7, e8, e9⟩
        exact ⟨rest.length, by simp, done ++ [c], rest, l, as, st, tld, v4, by rw [hcr]; simp, rfl, e1, e2, e3, e4, e5, e6, e7, e8, by simpa using e9⟩
      have dl400 : done.length < 400 := by
        rw [hcr] at hcs
        simp at hcs
        omega
      refine ⟨_, rfl, _, rfl, ka, l, mm, as, st, r, a, dx, _, ns, c, x, PyFlat.put rest, rfl, D, lm', hr', hs', hl, hdr, hx, fun H2 q l' as' D' hl' hr2 kp nq hq => ?_⟩
      have tk : tt ≠ ka := by
        obtain ⟨_, hk⟩ := D.obj
        exact ne_of ht' hk (by intro z; cases z)
      have tr : tt ≠ r := ne_of ht' hr' (by intro z; cases z)
      have ht2 := kp tt _ ht' tk tm tr
      have nqt : q ≠ tt := fun z => by rw [z, ht'] at nq; cases nq
      have tl' : tt ≠ l' := by
        rcases hl' with z | z
        · rw [z]; exact tl
        · exact fun y => by rw [← y, ht'] at z; cases z
      have lm2 : l' ≠ mm := by
        rcases hl' with z | z
        · rw [z]; exact lm'
        · exact fun y => by rw [y, D.lv] at z; cases z
      have sm2 : Same H H2 := fun b o e => kp b o (sm _ _ e) (ne_of_none e nk) (ne_of_none e nm0) (ne_of_none e nr0)
      have al := ans_len D.good x
      refine ⟨_, rfl, .inl ⟨rfl, _, SqL.of ht2⟩, _, rfl, q, _, rfl, .inl (SqL.of hq), tt, _, _, rfl, rfl, ht2, (by unfold iv; rw [List.length_map, szl]; omega), ?_⟩
      have hq2 : upd H2 tt (.lst (iv tld ++ [V.int ((iv (an (Wqatds.step st x).2)).length : Int)])) q = some (.lst (iv (an (Wqatds.step st x).2))) := by rw [upd_ne nqt]; exact hq
      refine ⟨_, rfl, .inl ⟨rfl, _, SqL.of upd_same⟩, _, rfl, tt, q, _, _, rfl, rfl, upd_same, hq2, ?_, ?_⟩
      · unfold iv
        rw [List.length_append, List.length_map, List.length_map, szl]
        show tld.length + 1 + _ ≤ _
        omega
      · have fin : iv tld ++ [V.int ((iv (an (Wqatds.step st x).2)).length : Int)] ++ iv (an (Wqatds.step st x).2) = iv (tld ++ (((an (Wqatds.step st x).2).length : Int) :: an (Wqatds.step st x).2)) := by
          unfold iv
          rw [List.map_append, List.map_cons, List.length_map, List.append_assoc]; rfl
        refine ⟨l', as', (Wqatds.step st x).1, tld ++ (((an (Wqatds.step st x).2).length : Int) :: an (Wqatds.step st x).2), _, rfl, (sm2.put nt0).put nt0, (D'.tl ht2 tl' tm).tl upd_same tl' tm, lm2, ?_, ?_, tl', ?_, ?_⟩
        · rw [upd_ne tr.symm, upd_ne tr.symm, hr2, put_app, List.length_append]
          show some (HO.ins A.cR dx (rfs a ((PyFlat.put done).length + (PyFlat.put1 c).length))) = some (HO.ins A.cR dx (rfs a ((PyFlat.put done).length + (PyFlat.put1 c ++ []).length)))
          rw [List.append_nil]
        · rw [upd_same, fin]
        · rw [← he]
          show _ = tld ++ PyFlat.told ((WqatdsNeutral.step st c).2 :: PyFlat.played WqatdsNeutral.step (WqatdsNeutral.step st c).1 rest)
          rw [step_cl hx]
          show _ = tld ++ ((((an (Wqatds.step st x).2).length : Int) :: an (Wqatds.step st x).2) ++ PyFlat.told (PyFlat.played WqatdsNeutral.step (Wqatds.step st x).1 rest))
          rw [List.append_assoc]
        · rw [List.length_append, List.length_cons, Nat.add_mul]
          omega
end
end Sl
end
section
set_option Elab.async false
set_option linter.all false
set_option maxRecDepth 100000
namespace Sl
open PySem PySem.Spec PyProof.Rows L2 TL
section
variable {K : PySem.W.Frag} {mg : Str → Option Value} {h : Heap}
/-- a def of the module -/
def IsDef (K : PySem.W.Frag) (mg : Str → Option Value) (x : Str) (st : Stmt) : Prop := ∃ f fd, Fun K x x st f fd ∧ mg x = some (.ref f) ∧ PySem.W.keepIn K (.ref f) = true
theorem isDef {x : Str} {st : Stmt} {f : Addr} {oc : Value} {od an : Option Addr} {osl : Array (Option Value)} {kV doc pm cdv ct : Value} (X : K.In h) (G : h.Ns mainGlobals mg) (a : PySem.W.nsIn K mainGlobals x = some (some (.ref f)))
    (l : K.lookup f = some ⟨oc, od, .func (PySem.W.fnOf x x (defArgs st) (defBody st) (defScope st) .none kV doc pm an cdv ct), osl⟩) (c : PySem.W.codeIn K cdv x = true) (k : PySem.W.keepIn K (.ref f) = true) : IsDef K mg x st :=
  ⟨f, _, fun_mk l c k, PySem.W.mg_of X G a, k⟩
/-- a method -/
def IsMeth (K : PySem.W.Frag) (C : Addr) (m qual : Str) (st : Stmt) : Prop := ∃ f fd, Fun K m qual st f fd ∧ Meth K C m f
theorem isMeth {C : Addr} {m qual : Str} {st : Stmt} {f : Addr} {oc : Value} {od an : Option Addr} {osl : Array (Option Value)} {kV doc pm cdv ct : Value} (a : PySem.W.findIn K (.ref C) m = some (some (.ref f))) (i : PySem.W.isFn K (.ref f) = true)
    (l : K.lookup f = some ⟨oc, od, .func (PySem.W.fnOf m qual (defArgs st) (defBody st) (defScope st) .none kV doc pm an cdv ct), osl⟩) (c : PySem.W.codeIn K cdv qual = true) (k : PySem.W.keepIn K (.ref f) = true) : IsMeth K C m qual st :=
  ⟨f, _, fun_mk l c k, a, i, k⟩
/-- a class that is made, its __init__ -/
def IsCls (K : PySem.W.Frag) (C : Addr) (qual : Str) (st : Stmt) : Prop := Cls K C ∧ ∃ f fd, Fun K "__init__" qual st f fd ∧ Mk K C f
theorem isCls {C : Addr} {qual : Str} {st : Stmt} {f : Addr} {oc : Value} {od an : Option Addr} {osl : Array (Option Value)} {kV doc pm cdv ct : Value} (pg : PySem.W.plainGet K C Str.empty = true) (hd : PySem.W.hasDictIn K C = true) (po : PySem.W.plainOver K C = true)
    (sa : PySem.W.findIn K (.ref C) "__setattr__" = some (some (.builtin "object.__setattr__"))) (mk : PySem.W.makesIn K C = true) (kc : PySem.W.keepIn K (.ref C) = true) (a : PySem.W.findIn K (.ref C) "__init__" = some (some (.ref f))) (i : PySem.W.isFn K (.ref f) = true)
    (l : K.lookup f = some ⟨oc, od, .func (PySem.W.fnOf "__init__" qual (defArgs st) (defBody st) (defScope st) .none kV doc pm an cdv ct), osl⟩) (c : PySem.W.codeIn K cdv qual = true) (k : PySem.W.keepIn K (.ref f) = true) : IsCls K C qual st :=
  ⟨⟨pg, hd, po, sa⟩, f, _, fun_mk l c k, mk, a, i, kc⟩
/-- the error's class -/
structure IsErr (K : PySem.W.Frag) (C N fI : Addr) (st : Stmt) : Prop where
  cls : XCls K C N fI
  no1 : XNo K N "line"
  no2 : XNo K N "why"
  ini : ∃ fd, Fun K "__init__" "TextFault.__init__" st fI fd
theorem isErr {C N f : Addr} {st : Stmt} {od an d2 : Option Addr} {osl sl : Array (Option Value)} {kV doc pm cdv ct cN : Value} {nm q : Str} {bs : List Value} {sn : List Str} {sub : List Value} {ab : Bool} {col : Option Bool} {dd : Option Addr} {k0 k1 k2 k3 k5 : Option Value} {es : Array DictEntry} {ep : Nat}
    (ob : K.lookup C = some (excClassObj nm q C N bs Xc.bmV true sn sub ab col dd k0 k1 k2 k3 k5 "ValueError.__new__")) (ns : K.lookup N = some ⟨cN, d2, .dict es ep, sl⟩) (hs : (es.toList.all fun e => match e.key with | .str _ _ => true | _ => false) = true)
    (a : PySem.W.nsIn K N "__init__" = some (some (.ref f))) (kc : PySem.W.keepIn K (.ref C) = true) (n1 : PySem.W.nsIn K N "__setattr__" = some none) (n2 : PySem.W.nsIn K N "__getattribute__" = some none) (n3 : PySem.W.nsIn K N "__getattr__" = some none)
    (n4 : PySem.W.nsIn K N "line" = some none) (n5 : PySem.W.nsIn K N "why" = some none) (b4 : typeLookup (.type "ValueError") "line" = pure none) (b5 : typeLookup (.type "ValueError") "why" = pure none)
    (l : K.lookup f = some ⟨.type "function", od, .func (PySem.W.fnOf "__init__" "TextFault.__init__" (defArgs st) (defBody st) (defScope st) .none kV doc pm an cdv ct), osl⟩) (c : PySem.W.codeIn K cdv "TextFault.__init__" = true) (k : PySem.W.keepIn K (.ref f) = true) : IsErr K C N f st :=
  ⟨⟨⟨nm, q, bs, sn, sub, ab, col, dd, k0, k1, k2, k3, k5, ob⟩, ⟨cN, d2, es, ep, sl, ns, hs⟩, a, ⟨_, l, rfl⟩, kc, n1, n2, n3⟩, ⟨n4, b4⟩, ⟨n5, b5⟩, _, fun_mk l c k⟩
theorem noAt {C : Addr} {f : Str} (a : PySem.W.findIn K (.ref C) f = some none) : NoAttr K C f := a
theorem isI {x : Str} {i : Int} {t : Tok} (X : K.In h) (G : h.Ns mainGlobals mg) (a : PySem.W.nsIn K mainGlobals x = some (some (.int i t))) : IsI mg x i := ⟨t, PySem.W.mg_of X G a⟩
theorem isTup {tC : Addr} {od : Option Addr} {n : Nat} {sl : Array (Option Value)} {t1 t2 t3 t4 : Tok} (l : K.lookup tC = some ⟨.type "tuple", od, .seq #[.str "linear" t1, .str "square" t2, .str "soft" t3, .str "switch" t4] n, sl⟩) : ∀ H, SqT K H tC (cnames.map V.str) := fun H =>
  .inr ⟨_, _, n, l, rfl, rfl, (by show 4 ≤ sizeLine; decide), .cons ⟨t1, rfl⟩ (.cons ⟨t2, rfl⟩ (.cons ⟨t3, rfl⟩ (.cons ⟨t4, rfl⟩ .nil)))⟩
/-- all that the top has written -/
structure Top (K : PySem.W.Frag) (mg : Str → Option Value) (A : Ad) : Prop where
  k_cD : IsCls K A.cD "Dimmer.__init__" s_Dimmer_init
  g_cD : mg "Dimmer" = some (.ref A.cD)
  n_cD_number : NoAttr K A.cD "number"
  n_cD_channel : NoAttr K A.cD "channel"
  n_cD_curve : NoAttr K A.cD "curve"
  n_cD_limit : NoAttr K A.cD "limit"
  n_cD_load : NoAttr K A.cD "load"
  n_cD_phase : NoAttr K A.cD "phase"
  k_cL : IsCls K A.cL "Dealing.__init__" s_Dealing_init
  g_cL : mg "Dealing" = some (.ref A.cL)
  n_cL_sums : NoAttr K A.cL "sums"
  n_cL_phases : NoAttr K A.cL "phases"
  k_cR : IsCls K A.cR "CallReader.__init__" s_CallReader_init
  g_cR : mg "CallReader" = some (.ref A.cR)
  n_cR_calls : NoAttr K A.cR "calls"
  n_cR_place : NoAttr K A.cR "place"
  k_cK : IsCls K A.cK "Desk.__init__" s_Desk_init
  g_cK : mg "Desk" = some (.ref A.cK)
  n_cK_dimmers : NoAttr K A.cK "dimmers"
  n_cK_levels : NoAttr K A.cK "levels"
  err : IsErr K A.cT A.nT A.fT s_TextFault_init
  g_cT : mg "TextFault" = some (.ref A.cT)
  g_tC : mg "CURVES" = some (.ref A.tC)
  tup : ∀ H, SqT K H A.tC (cnames.map V.str)
  i_0 : IsI mg "HIGHEST_DIMMER" (128)
  i_1 : IsI mg "CHANNELS" (64)
  i_2 : IsI mg "FULL_LIMIT" (100)
  i_3 : IsI mg "MOST_LOAD" (5000)
  i_4 : IsI mg "PHASES" (3)
  i_5 : IsI mg "LINE_END" (10)
  i_6 : IsI mg "BLANK" (32)
  i_7 : IsI mg "NOUGHT" (48)
  i_8 : IsI mg "NINE" (57)
  i_9 : IsI mg "FIELDS" (6)
  i_10 : IsI mg "MOST_DIGITS" (4)
  i_11 : IsI mg "NO_SUCH_LINE" (1)
  i_12 : IsI mg "NOT_RISING" (2)
  i_13 : IsI mg "FULL_LEVEL" (100)
  i_14 : IsI mg "SWITCH_LEVEL" (50)
  i_15 : IsI mg "FULL_OUTPUT" (255)
  i_16 : IsI mg "MOST_TEXT" (8192)
  i_17 : IsI mg "MOST_DEALT" (9)
  i_18 : IsI mg "OUT_OF_BOUNDS" (-1)
  i_19 : IsI mg "TOO_LONG" (-2)
  i_20 : IsI mg "NO_SUCH_LEVEL" (-3)
  i_21 : IsI mg "NO_SUCH_DIMMER" (-4)
  i_22 : IsI mg "NO_PATCH" (-6)
  i_23 : IsI mg "PATCH" (0)
  i_24 : IsI mg "PRINT_PATCH" (1)
  i_25 : IsI mg "SET_LEVEL" (2)
  i_26 : IsI mg "LEVEL" (3)
  i_27 : IsI mg "OUT" (4)
  i_28 : IsI mg "OUTS" (5)
  i_29 : IsI mg "CHANNEL" (6)
  i_30 : IsI mg "NEEDS" (7)
  i_31 : IsI mg "LOAD" (8)
  i_32 : IsI mg "EVENLY" (9)
  b_len : mg "len" = none
  b_range : mg "range" = none
  b_enumerate : mg "enumerate" = none
  b_ord : mg "ord" = none
  b_str : mg "str" = none
  b_all : mg "all" = none
  b_sum : mg "sum" = none
  b_max : mg "max" = none
  b_list : mg "list" = none
  d_nearest : IsDef K mg "nearest" s_nearest
  d_curve_at : IsDef K mg "curve_at" s_curve_at
  d_given_by : IsDef K mg "given_by" s_given_by
  d_least_level : IsDef K mg "least_level" s_least_level
  d_bytes_of : IsDef K mg "bytes_of" s_bytes_of
  d_lines_of : IsDef K mg "lines_of" s_lines_of
  d_fields_of : IsDef K mg "fields_of" s_fields_of
  d_is_decimal : IsDef K mg "is_decimal" s_is_decimal
  d_read_number : IsDef K mg "read_number" s_read_number
  d_read_curve : IsDef K mg "read_curve" s_read_curve
  d_read_dimmer : IsDef K mg "read_dimmer" s_read_dimmer
  d_read_patch : IsDef K mg "read_patch" s_read_patch
  d_write_dimmer : IsDef K mg "write_dimmer" s_write_dimmer
  d_write_patch : IsDef K mg "write_patch" s_write_patch
  d_no_loads_dealt : IsDef K mg "no_loads_dealt" s_no_loads_dealt
  d_next_dealings : IsDef K mg "next_dealings" s_next_dealings
  d_least_thinkable : IsDef K mg "least_thinkable" s_least_thinkable
  d_deal_evenly : IsDef K mg "deal_evenly" s_deal_evenly
  d_is_channel : IsDef K mg "is_channel" s_is_channel
  d_is_phase : IsDef K mg "is_phase" s_is_phase
  d_can_be_dealt : IsDef K mg "can_be_dealt" s_can_be_dealt
  d_answer_next : IsDef K mg "answer_next" s_answer_next
  d_answers : IsDef K mg "answers" s_answers
  m_with_load : IsMeth K A.cL "with_load" "Dealing.with_load" s_Dealing_with_load
  m_is_needless : IsMeth K A.cL "is_needless" "Dealing.is_needless" s_Dealing_is_needless
  m_at_end : IsMeth K A.cR "at_end" "CallReader.at_end" s_CallReader_at_end
  m_take_number : IsMeth K A.cR "take_number" "CallReader.take_number" s_CallReader_take_number
  m_take_row : IsMeth K A.cR "take_row" "CallReader.take_row" s_CallReader_take_row
  m_level_of : IsMeth K A.cK "level_of" "Desk.level_of" s_Desk_level_of
  m_given_now : IsMeth K A.cK "given_now" "Desk.given_now" s_Desk_given_now
  m_find_dimmer : IsMeth K A.cK "find_dimmer" "Desk.find_dimmer" s_Desk_find_dimmer
  m_answer_patch : IsMeth K A.cK "answer_patch" "Desk.answer_patch" s_Desk_answer_patch
  m_answer_print : IsMeth K A.cK "answer_print" "Desk.answer_print" s_Desk_answer_print
  m_answer_set : IsMeth K A.cK "answer_set" "Desk.answer_set" s_Desk_answer_set
  m_answer_level : IsMeth K A.cK "answer_level" "Desk.answer_level" s_Desk_answer_level
  m_answer_out : IsMeth K A.cK "answer_out" "Desk.answer_out" s_Desk_answer_out
  m_answer_outs : IsMeth K A.cK "answer_outs" "Desk.answer_outs" s_Desk_answer_outs
  m_answer_channel : IsMeth K A.cK "answer_channel" "Desk.answer_channel" s_Desk_answer_channel
  m_answer_needs : IsMeth K A.cK "answer_needs" "Desk.answer_needs" s_Desk_answer_needs
  m_answer_load : IsMeth K A.cK "answer_load" "Desk.answer_load" s_Desk_answer_load
  m_answer_evenly : IsMeth K A.cK "answer_evenly" "Desk.answer_evenly" s_Desk_answer_evenly
theorem Top.txt {A : Ad} (t : Top K mg A) : Txt K mg A := ⟨t.k_cD.1, t.n_cD_number, t.n_cD_channel, t.n_cD_curve, t.n_cD_limit, t.n_cD_load, t.n_cD_phase, t.k_cL.1, t.n_cL_sums, t.n_cL_phases, t.k_cR.1, t.n_cR_calls, t.n_cR_place, t.k_cK.1, t.n_cK_dimmers, t.n_cK_levels, t.err.cls, t.err.no1, t.err.no2, t.g_cT, t.g_tC, t.tup, t.i_0, t.i_1, t.i_2, t.i_3, t.i_4, t.i_5, t.i_6, t.i_7, t.i_8, t.i_9, t.i_10, t.i_11, t.i_12, t.i_13, t.i_14, t.i_15, t.i_16, t.i_17, t.i_18, t.i_19, t.i_20, t.i_21, t.i_22, t.i_23, t.i_24, t.i_25, t.i_26, t.i_27, t.i_28, t.i_29, t.i_30, t.i_31, t.i_32, t.b_len, t.b_range, t.b_enumerate, t.b_ord, t.b_str, t.b_all, t.b_sum, t.b_max, t.b_list⟩
end
section
variable {P : Program} {w : World} {K : PySem.W.Frag} {mg : Str → Option Value} {base : Heap} {A : Ad}
theorem bd_nearest {f : Addr} {fd : FuncData} (F : Fun K "nearest" "nearest" s_nearest f fd) : Binds K fd ["dividend", "divisor"] [] := F.binds (ps := ["dividend", "divisor"]) fun _ _ _ _ _ _ us hl => match us, hl with | [_, _], _ => rfl
theorem bd_curve_at {f : Addr} {fd : FuncData} (F : Fun K "curve_at" "curve_at" s_curve_at f fd) : Binds K fd ["curve", "level"] [] := F.binds (ps := ["curve", "level"]) fun _ _ _ _ _ _ us hl => match us, hl with | [_, _], _ => rfl
theorem bd_given_by {f : Addr} {fd : FuncData} (F : Fun K "given_by" "given_by" s_given_by f fd) : Binds K fd ["dimmer", "level"] [] := F.binds (ps := ["dimmer", "level"]) fun _ _ _ _ _ _ us hl => match us, hl with | [_, _], _ => rfl
theorem bd_least_level {f : Addr} {fd : FuncData} (F : Fun K "least_level" "least_level" s_least_level f fd) : Binds K fd ["dimmer", "much"] [] := F.binds (ps := ["dimmer", "much"]) fun _ _ _ _ _ _ us hl => match us, hl with | [_, _], _ => rfl
theorem bd_bytes_of {f : Addr} {fd : FuncData} (F : Fun K "bytes_of" "bytes_of" s_bytes_of f fd) : Binds K fd ["words"] [] := F.binds (ps := ["words"]) fun _ _ _ _ _ _ us hl => match us, hl with | [_], _ => rfl
theorem bd_lines_of {f : Addr} {fd : FuncData} (F : Fun K "lines_of" "lines_of" s_lines_of f fd) : Binds K fd ["text"] [] := F.binds (ps := ["text"]) fun _ _ _ _ _ _ us hl => match us, hl with | [_], _ => rfl
theorem bd_fields_of {f : Addr} {fd : FuncData} (F : Fun K "fields_of" "fields_of" s_fields_of f fd) : Binds K fd ["signs"] [] := F.binds (ps := ["signs"]) fun _ _ _ _ _ _ us hl => match us, hl with | [_], _ => rfl
theorem bd_is_decimal {f : Addr} {fd : FuncData} (F : Fun K "is_decimal" "is_decimal" s_is_decimal f fd) : Binds K fd ["field"] [] := F.binds (ps := ["field"]) fun _ _ _ _ _ _ us hl => match us, hl with | [_], _ => rfl
theorem bd_read_number {f : Addr} {fd : FuncData} (F : Fun K "read_number" "read_number" s_read_number f fd) : Binds K fd ["field", "least", "most"] [] := F.binds (ps := ["field", "least", "most"]) fun _ _ _ _ _ _ us hl => match us, hl with | [_, _, _], _ => rfl
theorem bd_read_curve {f : Addr} {fd : FuncData} (F : Fun K "read_curve" "read_curve" s_read_curve f fd) : Binds K fd ["field"] [] := F.binds (ps := ["field"]) fun _ _ _ _ _ _ us hl => match us, hl with | [_], _ => rfl
theorem bd_read_dimmer {f : Addr} {fd : FuncData} (F : Fun K "read_dimmer" "read_dimmer" s_read_dimmer f fd) : Binds K fd ["line"] [] := F.binds (ps := ["line"]) fun _ _ _ _ _ _ us hl => match us, hl with | [_], _ => rfl
theorem bd_read_patch {f : Addr} {fd : FuncData} (F : Fun K "read_patch" "read_patch" s_read_patch f fd) : Binds K fd ["text"] [] := F.binds (ps := ["text"]) fun _ _ _ _ _ _ us hl => match us, hl with | [_], _ => rfl
theorem bd_write_dimmer {f : Addr} {fd : FuncData} (F : Fun K "write_dimmer" "write_dimmer" s_write_dimmer f fd) : Binds K fd ["dimmer"] [] := F.binds (ps := ["dimmer"]) fun _ _ _ _ _ _ us hl => match us, hl with | [_], _ => rfl
theorem bd_write_patch {f : Addr} {fd : FuncData} (F : Fun K "write_patch" "write_patch" s_write_patch f fd) : Binds K fd ["dimmers"] [] := F.binds (ps := ["dimmers"]) fun _ _ _ _ _ _ us hl => match us, hl with | [_], _ => rfl
theorem bd_no_loads_dealt {f : Addr} {fd : FuncData} (F : Fun K "no_loads_dealt" "no_loads_dealt" s_no_loads_dealt f fd) : Binds K fd [] [] := F.binds (ps := []) fun _ _ _ _ _ _ us hl => match us, hl with | [], _ => rfl
theorem bd_next_dealings {f : Addr} {fd : FuncData} (F : Fun K "next_dealings" "next_dealings" s_next_dealings f fd) : Binds K fd ["dealing", "load"] [] := F.binds (ps := ["dealing", "load"]) fun _ _ _ _ _ _ us hl => match us, hl with | [_, _], _ => rfl
theorem bd_least_thinkable {f : Addr} {fd : FuncData} (F : Fun K "least_thinkable" "least_thinkable" s_least_thinkable f fd) : Binds K fd ["loads"] [] := F.binds (ps := ["loads"]) fun _ _ _ _ _ _ us hl => match us, hl with | [_], _ => rfl
theorem bd_deal_evenly {f : Addr} {fd : FuncData} (F : Fun K "deal_evenly" "deal_evenly" s_deal_evenly f fd) : Binds K fd ["loads"] [] := F.binds (ps := ["loads"]) fun _ _ _ _ _ _ us hl => match us, hl with | [_], _ => rfl
theorem bd_is_channel {f : Addr} {fd : FuncData} (F : Fun K "is_channel" "is_channel" s_is_channel f fd) : Binds K fd ["number"] [] := F.binds (ps := ["number"]) fun _ _ _ _ _ _ us hl => match us, hl with | [_], _ => rfl
theorem bd_is_phase {f : Addr} {fd : FuncData} (F : Fun K "is_phase" "is_phase" s_is_phase f fd) : Binds K fd ["number"] [] := F.binds (ps := ["number"]) fun _ _ _ _ _ _ us hl => match us, hl with | [_], _ => rfl
theorem bd_can_be_dealt {f : Addr} {fd : FuncData} (F : Fun K "can_be_dealt" "can_be_dealt" s_can_be_dealt f fd) : Binds K fd ["loads"] [] := F.binds (ps := ["loads"]) fun _ _ _ _ _ _ us hl => match us, hl with | [_], _ => rfl
theorem bd_answer_next {f : Addr} {fd : FuncData} (F : Fun K "answer_next" "answer_next" s_answer_next f fd) : Binds K fd ["desk", "reader"] [] := F.binds (ps := ["desk", "reader"]) fun _ _ _ _ _ _ us hl => match us, hl with | [_, _], _ => rfl
theorem bd_answers {f : Addr} {fd : FuncData} (F : Fun K "answers" "answers" s_answers f fd) : Binds K fd ["calls"] [] := F.binds (ps := ["calls"]) fun _ _ _ _ _ _ us hl => match us, hl with | [_], _ => rfl
theorem bm_with_load {f : Addr} {fd : FuncData} (F : Fun K "with_load" "Dealing.with_load" s_Dealing_with_load f fd) : Binds K fd ["self", "load", "phase"] [] := F.binds (ps := ["self", "load", "phase"]) fun _ _ _ _ _ _ us hl => match us, hl with | [_, _, _], _ => rfl
theorem bm_is_needless {f : Addr} {fd : FuncData} (F : Fun K "is_needless" "Dealing.is_needless" s_Dealing_is_needless f fd) : Binds K fd ["self", "phase"] [] := F.binds (ps := ["self", "phase"]) fun _ _ _ _ _ _ us hl => match us, hl with | [_, _], _ => rfl
theorem bm_at_end {f : Addr} {fd : FuncData} (F : Fun K "at_end" "CallReader.at_end" s_CallReader_at_end f fd) : Binds K fd ["self"] [] := F.binds (ps := ["self"]) fun _ _ _ _ _ _ us hl => match us, hl with | [_], _ => rfl
theorem bm_take_number {f : Addr} {fd : FuncData} (F : Fun K "take_number" "CallReader.take_number" s_CallReader_take_number f fd) : Binds K fd ["self"] [] := F.binds (ps := ["self"]) fun _ _ _ _ _ _ us hl => match us, hl with | [_], _ => rfl
theorem bm_take_row {f : Addr} {fd : FuncData} (F : Fun K "take_row" "CallReader.take_row" s_CallReader_take_row f fd) : Binds K fd ["self"] [] := F.binds (ps := ["self"]) fun _ _ _ _ _ _ us hl => match us, hl with | [_], _ => rfl
theorem bm_level_of {f : Addr} {fd : FuncData} (F : Fun K "level_of" "Desk.level_of" s_Desk_level_of f fd) : Binds K fd ["self", "channel"] [] := F.binds (ps := ["self", "channel"]) fun _ _ _ _ _ _ us hl => match us, hl with | [_, _], _ => rfl
theorem bm_given_now {f : Addr} {fd : FuncData} (F : Fun K "given_now" "Desk.given_now" s_Desk_given_now f fd) : Binds K fd ["self", "dimmer"] [] := F.binds (ps := ["self", "dimmer"]) fun _ _ _ _ _ _ us hl => match us, hl with | [_, _], _ => rfl
theorem bm_find_dimmer {f : Addr} {fd : FuncData} (F : Fun K "find_dimmer" "Desk.find_dimmer" s_Desk_find_dimmer f fd) : Binds K fd ["self", "number"] [] := F.binds (ps := ["self", "number"]) fun _ _ _ _ _ _ us hl => match us, hl with | [_, _], _ => rfl
theorem bm_answer_patch {f : Addr} {fd : FuncData} (F : Fun K "answer_patch" "Desk.answer_patch" s_Desk_answer_patch f fd) : Binds K fd ["self", "text"] [] := F.binds (ps := ["self", "text"]) fun _ _ _ _ _ _ us hl => match us, hl with | [_, _], _ => rfl
theorem bm_answer_print {f : Addr} {fd : FuncData} (F : Fun K "answer_print" "Desk.answer_print" s_Desk_answer_print f fd) : Binds K fd ["self"] [] := F.binds (ps := ["self"]) fun _ _ _ _ _ _ us hl => match us, hl with | [_], _ => rfl
theorem bm_answer_set {f : Addr} {fd : FuncData} (F : Fun K "answer_set" "Desk.answer_set" s_Desk_answer_set f fd) : Binds K fd ["self", "channel", "level"] [] := F.binds (ps := ["self", "channel", "level"]) fun _ _ _ _ _ _ us hl => match us, hl with | [_, _, _], _ => rfl
theorem bm_answer_level {f : Addr} {fd : FuncData} (F : Fun K "answer_level" "Desk.answer_level" s_Desk_answer_level f fd) : Binds K fd ["self", "channel"] [] := F.binds (ps := ["self", "channel"]) fun _ _ _ _ _ _ us hl => match us, hl with | [_, _], _ => rfl
theorem bm_answer_out {f : Addr} {fd : FuncData} (F : Fun K "answer_out" "Desk.answer_out" s_Desk_answer_out f fd) : Binds K fd ["self", "number"] [] := F.binds (ps := ["self", "number"]) fun _ _ _ _ _ _ us hl => match us, hl with | [_, _], _ => rfl
theorem bm_answer_outs {f : Addr} {fd : FuncData} (F : Fun K "answer_outs" "Desk.answer_outs" s_Desk_answer_outs f fd) : Binds K fd ["self"] [] := F.binds (ps := ["self"]) fun _ _ _ _ _ _ us hl => match us, hl with | [_], _ => rfl
theorem bm_answer_channel {f : Addr} {fd : FuncData} (F : Fun K "answer_channel" "Desk.answer_channel" s_Desk_answer_channel f fd) : Binds K fd ["self", "channel"] [] := F.binds (ps := ["self", "channel"]) fun _ _ _ _ _ _ us hl => match us, hl with | [_, _], _ => rfl
theorem bm_answer_needs {f : Addr} {fd : FuncData} (F : Fun K "answer_needs" "Desk.answer_needs" s_Desk_answer_needs f fd) : Binds K fd ["self", "number", "much"] [] := F.binds (ps := ["self", "number", "much"]) fun _ _ _ _ _ _ us hl => match us, hl with | [_, _, _], _ => rfl
theorem bm_answer_load {f : Addr} {fd : FuncData} (F : Fun K "answer_load" "Desk.answer_load" s_Desk_answer_load f fd) : Binds K fd ["self", "phase"] [] := F.binds (ps := ["self", "phase"]) fun _ _ _ _ _ _ us hl => match us, hl with | [_, _], _ => rfl
theorem bm_answer_evenly {f : Addr} {fd : FuncData} (F : Fun K "answer_evenly" "Desk.answer_evenly" s_Desk_answer_evenly f fd) : Binds K fd ["self", "loads"] [] := F.binds (ps := ["self", "loads"]) fun _ _ _ _ _ _ us hl => match us, hl with | [_, _], _ => rfl
theorem bi_Dimmer {f : Addr} {fd : FuncData} (F : Fun K "__init__" "Dimmer.__init__" s_Dimmer_init f fd) : Binds K fd ["self", "number", "channel", "curve", "limit", "load", "phase"] [] := F.binds (ps := ["self", "number", "channel", "curve", "limit", "load", "phase"]) fun _ _ _ _ _ _ us hl => match us, hl with | [_, _, _, _, _, _, _], _ => rfl
theorem bi_Dealing {f : Addr} {fd : FuncData} (F : Fun K "__init__" "Dealing.__init__" s_Dealing_init f fd) : Binds K fd ["self", "sums", "phases"] [] := F.binds (ps := ["self", "sums", "phases"]) fun _ _ _ _ _ _ us hl => match us, hl with | [_, _, _], _ => rfl
theorem bi_CallReader {f : Addr} {fd : FuncData} (F : Fun K "__init__" "CallReader.__init__" s_CallReader_init f fd) : Binds K fd ["self", "calls"] [] := F.binds (ps := ["self", "calls"]) fun _ _ _ _ _ _ us hl => match us, hl with | [_, _], _ => rfl
theorem bi_Desk {f : Addr} {fd : FuncData} (F : Fun K "__init__" "Desk.__init__" s_Desk_init f fd) : Binds K fd ["self"] [] := F.binds (ps := ["self"]) fun _ _ _ _ _ _ us hl => match us, hl with | [_], _ => rfl
theorem bi_TextFault {f : Addr} {fd : FuncData} (F : Fun K "__init__" "TextFault.__init__" s_TextFault_init f fd) : Binds K fd ["self", "line", "why"] [] := F.binds (ps := ["self", "line", "why"]) fun _ _ _ _ _ _ us hl => match us, hl with | [_, _, _], _ => rfl
theorem all_ok (t : Top K mg A) {fa : Addr} (hfa : mg "answers" = some (.ref fa)) : ∃ fd : FuncData, (∀ (s : Shared) (us : List Value), us.length = (["calls"] : List Str).length → BindsTo s fd ⟨us, []⟩ ((["calls"] : List Str).zip us)) ∧
    ∀ base : Heap, K.In base → base.Ns mainGlobals mg → FnOk P w K mg base CX0 8 fa fd ["calls"] (spAns K) := by
  have T := t.txt
  obtain ⟨f0, fd0, F0, g0, h0⟩ := t.d_answers
  have e : fa = f0 := by
    have := hfa.symm.trans g0
    cases this; rfl
  subst e
  refine ⟨fd0, fun s us hu => ?_, fun base kin ns => ?_⟩
  · obtain ⟨oc, od, kV, doc, pm, an, cdv, ct, osl, e, _, _⟩ := F0.ex
    subst e
    match us, hu with
    | [_], _ => exact .of_eq rfl
  have D_nearest : Dn P w K mg base 1 "nearest" ["dividend", "divisor"] (spNearest) := by
    obtain ⟨f, fd, F, g, h⟩ := t.d_nearest
    exact ⟨f, fd, ok_nearest F, g, h, bd_nearest F⟩
  have D_curve_at : Dn P w K mg base 2 "curve_at" ["curve", "level"] (spCurve) := by
    obtain ⟨f, fd, F, g, h⟩ := t.d_curve_at
    exact ⟨f, fd, ok_curve F T D_nearest, g, h, bd_curve_at F⟩
  have D_given_by : Dn P w K mg base 3 "given_by" ["dimmer", "level"] (spGiven A) := by
    obtain ⟨f, fd, F, g, h⟩ := t.d_given_by
    exact ⟨f, fd, ok_given F T D_curve_at, g, h, bd_given_by F⟩
  have D_least_level : Dn P w K mg base 4 "least_level" ["dimmer", "much"] (spLeast A) := by
    obtain ⟨f, fd, F, g, h⟩ := t.d_least_level
    exact ⟨f, fd, ok_least F T D_given_by, g, h, bd_least_level F⟩
  have D_bytes_of : Dn P w K mg base 1 "bytes_of" ["words"] (spBytes) := by
    obtain ⟨f, fd, F, g, h⟩ := t.d_bytes_of
    exact ⟨f, fd, ok_bytes F T, g, h, bd_bytes_of F⟩
  have D_lines_of : Dn P w K mg base 1 "lines_of" ["text"] (spLines K) := by
    obtain ⟨f, fd, F, g, h⟩ := t.d_lines_of
    exact ⟨f, fd, ok_lines F T, g, h, bd_lines_of F⟩
  have D_fields_of : Dn P w K mg base 1 "fields_of" ["signs"] (spFields K) := by
    obtain ⟨f, fd, F, g, h⟩ := t.d_fields_of
    exact ⟨f, fd, ok_fields F T, g, h, bd_fields_of F⟩
  have D_is_decimal : Dn P w K mg base 1 "is_decimal" ["field"] (spDec K) := by
    obtain ⟨f, fd, F, g, h⟩ := t.d_is_decimal
    exact ⟨f, fd, ok_dec F T, g, h, bd_is_decimal F⟩
  have D_read_number : Dn P w K mg base 2 "read_number" ["field", "least", "most"] (spNumber K) := by
    obtain ⟨f, fd, F, g, h⟩ := t.d_read_number
    exact ⟨f, fd, ok_number F T D_is_decimal, g, h, bd_read_number F⟩
  have D_read_curve : Dn P w K mg base 2 "read_curve" ["field"] (spRCurve K) := by
    obtain ⟨f, fd, F, g, h⟩ := t.d_read_curve
    exact ⟨f, fd, ok_rcurve F T D_bytes_of, g, h, bd_read_curve F⟩
  have C_Dimmer : Cd P w K mg base 1 "Dimmer" A.cD ["self", "number", "channel", "curve", "limit", "load", "phase"] (spDInit A) := by
    obtain ⟨_, f, fd, F, g⟩ := t.k_cD
    exact ⟨f, fd, ok_dinit F T, g, t.g_cD, bi_Dimmer F⟩
  have D_read_dimmer : Dn P w K mg base 3 "read_dimmer" ["line"] (spRDim K A) := by
    obtain ⟨f, fd, F, g, h⟩ := t.d_read_dimmer
    exact ⟨f, fd, ok_rdim F T D_fields_of D_read_number D_read_curve C_Dimmer, g, h, bd_read_dimmer F⟩
  have D_read_patch : DnX P w K mg base A.cT 4 "read_patch" ["text"] (spRead K A) := by
    obtain ⟨f, fd, F, g, h⟩ := t.d_read_patch
    obtain ⟨fdT, FT⟩ := t.err.ini
    exact ⟨f, fd, ok_read F T D_lines_of D_read_dimmer (ok_tinit FT T) (bi_TextFault FT), g, h, bd_read_patch F⟩
  have D_write_dimmer : Dn P w K mg base 2 "write_dimmer" ["dimmer"] (spWDim A) := by
    obtain ⟨f, fd, F, g, h⟩ := t.d_write_dimmer
    exact ⟨f, fd, ok_wdim F T D_bytes_of, g, h, bd_write_dimmer F⟩
  have D_write_patch : Dn P w K mg base 3 "write_patch" ["dimmers"] (spWPatch A) := by
    obtain ⟨f, fd, F, g, h⟩ := t.d_write_patch
    exact ⟨f, fd, ok_wpatch F T D_write_dimmer, g, h, bd_write_patch F⟩
  have C_Dealing : Cd P w K mg base 1 "Dealing" A.cL ["self", "sums", "phases"] (spLInit A) := by
    obtain ⟨_, f, fd, F, g⟩ := t.k_cL
    exact ⟨f, fd, ok_linit F T, g, t.g_cL, bi_Dealing F⟩
  have M_with_load : Md P w K mg base 3 A.cL "with_load" ["self", "load", "phase"] (spWith A) := by
    obtain ⟨f, fd, F, g⟩ := t.m_with_load
    exact ⟨f, fd, ok_with F T C_Dealing, g, bm_with_load F⟩
  have M_is_needless : Md P w K mg base 1 A.cL "is_needless" ["self", "phase"] (spNeed A) := by
    obtain ⟨f, fd, F, g⟩ := t.m_is_needless
    exact ⟨f, fd, ok_need F T, g, bm_is_needless F⟩
  have D_no_loads_dealt : Dn P w K mg base 3 "no_loads_dealt" [] (spNone A) := by
    obtain ⟨f, fd, F, g, h⟩ := t.d_no_loads_dealt
    exact ⟨f, fd, ok_none F T C_Dealing, g, h, bd_no_loads_dealt F⟩
  have D_next_dealings : Dn P w K mg base 4 "next_dealings" ["dealing", "load"] (spNext A) := by
    obtain ⟨f, fd, F, g, h⟩ := t.d_next_dealings
    exact ⟨f, fd, ok_next F T M_is_needless M_with_load, g, h, bd_next_dealings F⟩
  have D_least_thinkable : Dn P w K mg base 1 "least_thinkable" ["loads"] (spThink) := by
    obtain ⟨f, fd, F, g, h⟩ := t.d_least_thinkable
    exact ⟨f, fd, ok_think F T, g, h, bd_least_thinkable F⟩
  have D_deal_evenly : Dn P w K mg base 5 "deal_evenly" ["loads"] (spDeal A) := by
    obtain ⟨f, fd, F, g, h⟩ := t.d_deal_evenly
    exact ⟨f, fd, ok_deal F T D_least_thinkable D_no_loads_dealt D_next_dealings, g, h, bd_deal_evenly F⟩
  have C_CallReader : Cd P w K mg base 1 "CallReader" A.cR ["self", "calls"] (spRInit A) := by
    obtain ⟨_, f, fd, F, g⟩ := t.k_cR
    exact ⟨f, fd, ok_rinit F T, g, t.g_cR, bi_CallReader F⟩
  have M_at_end : Md P w K mg base 1 A.cR "at_end" ["self"] (spAtEnd K A) := by
    obtain ⟨f, fd, F, g⟩ := t.m_at_end
    exact ⟨f, fd, ok_atend F T, g, bm_at_end F⟩
  have M_take_number : Md P w K mg base 1 A.cR "take_number" ["self"] (spNum K A) := by
    obtain ⟨f, fd, F, g⟩ := t.m_take_number
    exact ⟨f, fd, ok_num F T, g, bm_take_number F⟩
  have M_take_row : Md P w K mg base 2 A.cR "take_row" ["self"] (spRow K A) := by
    obtain ⟨f, fd, F, g⟩ := t.m_take_row
    exact ⟨f, fd, ok_row F T M_take_number, g, bm_take_row F⟩
  have D_is_channel : Dn P w K mg base 1 "is_channel" ["number"] (spWithin 64) := by
    obtain ⟨f, fd, F, g, h⟩ := t.d_is_channel
    exact ⟨f, fd, ok_ischannel F T, g, h, bd_is_channel F⟩
  have D_is_phase : Dn P w K mg base 1 "is_phase" ["number"] (spWithin 3) := by
    obtain ⟨f, fd, F, g, h⟩ := t.d_is_phase
    exact ⟨f, fd, ok_isphase F T, g, h, bd_is_phase F⟩
  have D_can_be_dealt : Dn P w K mg base 1 "can_be_dealt" ["loads"] (spCan K) := by
    obtain ⟨f, fd, F, g, h⟩ := t.d_can_be_dealt
    exact ⟨f, fd, ok_can F T, g, h, bd_can_be_dealt F⟩
  have C_Desk : Cd P w K mg base 1 "Desk" A.cK ["self"] (spKInit A) := by
    obtain ⟨_, f, fd, F, g⟩ := t.k_cK
    exact ⟨f, fd, ok_kinit F T, g, t.g_cK, bi_Desk F⟩
  have M_level_of : Md P w K mg base 1 A.cK "level_of" ["self", "channel"] (spLevelOf A) := by
    obtain ⟨f, fd, F, g⟩ := t.m_level_of
    exact ⟨f, fd, ok_levelof F T, g, bm_level_of F⟩
  have M_given_now : Md P w K mg base 4 A.cK "given_now" ["self", "dimmer"] (spNow A) := by
    obtain ⟨f, fd, F, g⟩ := t.m_given_now
    exact ⟨f, fd, ok_now F T D_given_by M_level_of, g, bm_given_now F⟩
  have M_find_dimmer : Md P w K mg base 1 A.cK "find_dimmer" ["self", "number"] (spFind A) := by
    obtain ⟨f, fd, F, g⟩ := t.m_find_dimmer
    exact ⟨f, fd, ok_find F T, g, bm_find_dimmer F⟩
  have M_answer_patch : Md P w K mg base 5 A.cK "answer_patch" ["self", "text"] (spPatch K A) := by
    obtain ⟨f, fd, F, g⟩ := t.m_answer_patch
    exact ⟨f, fd, ok_patch F T D_read_patch, g, bm_answer_patch F⟩
  have M_answer_print : Md P w K mg base 4 A.cK "answer_print" ["self"] (spA0 A .print) := by
    obtain ⟨f, fd, F, g⟩ := t.m_answer_print
    exact ⟨f, fd, ok_print F T D_write_patch, g, bm_answer_print F⟩
  have M_answer_set : Md P w K mg base 2 A.cK "answer_set" ["self", "channel", "level"] (spSet A) := by
    obtain ⟨f, fd, F, g⟩ := t.m_answer_set
    exact ⟨f, fd, ok_set F T D_is_channel, g, bm_answer_set F⟩
  have M_answer_level : Md P w K mg base 2 A.cK "answer_level" ["self", "channel"] (spA1 A .level) := by
    obtain ⟨f, fd, F, g⟩ := t.m_answer_level
    exact ⟨f, fd, ok_level F T D_is_channel M_level_of, g, bm_answer_level F⟩
  have M_answer_out : Md P w K mg base 5 A.cK "answer_out" ["self", "number"] (spA1 A .out) := by
    obtain ⟨f, fd, F, g⟩ := t.m_answer_out
    exact ⟨f, fd, ok_out F T M_find_dimmer M_given_now, g, bm_answer_out F⟩
  have M_answer_outs : Md P w K mg base 5 A.cK "answer_outs" ["self"] (spA0 A .outs) := by
    obtain ⟨f, fd, F, g⟩ := t.m_answer_outs
    exact ⟨f, fd, ok_outs F T M_given_now, g, bm_answer_outs F⟩
  have M_answer_channel : Md P w K mg base 2 A.cK "answer_channel" ["self", "channel"] (spA1 A .channel) := by
    obtain ⟨f, fd, F, g⟩ := t.m_answer_channel
    exact ⟨f, fd, ok_channel F T D_is_channel, g, bm_answer_channel F⟩
  have M_answer_needs : Md P w K mg base 5 A.cK "answer_needs" ["self", "number", "much"] (spA2 A .needs) := by
    obtain ⟨f, fd, F, g⟩ := t.m_answer_needs
    exact ⟨f, fd, ok_needs F T M_find_dimmer D_least_level, g, bm_answer_needs F⟩
  have M_answer_load : Md P w K mg base 5 A.cK "answer_load" ["self", "phase"] (spA1 A .load) := by
    obtain ⟨f, fd, F, g⟩ := t.m_answer_load
    exact ⟨f, fd, ok_load F T D_is_phase M_given_now, g, bm_answer_load F⟩
  have M_answer_evenly : Md P w K mg base 6 A.cK "answer_evenly" ["self", "loads"] (spEv A) := by
    obtain ⟨f, fd, F, g⟩ := t.m_answer_evenly
    exact ⟨f, fd, ok_evenly F T D_can_be_dealt D_deal_evenly, g, bm_answer_evenly F⟩
  have D_answer_next : Dn P w K mg base 7 "answer_next" ["desk", "reader"] (spNextA K A) := by
    obtain ⟨f, fd, F, g, h⟩ := t.d_answer_next
    exact ⟨f, fd, ok_nextA F T ⟨M_take_number, M_take_row, M_answer_patch, M_answer_print, M_answer_set, M_answer_level, M_answer_out, M_answer_outs, M_answer_channel, M_answer_needs, M_answer_load, M_answer_evenly⟩, g, h, bd_answer_next F⟩
  exact ok_answers F0 T C_Desk C_CallReader M_at_end D_answer_next
theorem all_ok2 {cD cT nT fT cL cR cK tC : Addr} (t : Top K mg ⟨cD, cT, nT, fT, cL, cR, cK, tC⟩) {fa : Addr} (hfa : mg "answers" = some (.ref fa)) : ∃ fd : FuncData, (∀ (s : Shared) (us : List Value), us.length = (["calls"] : List Str).length → BindsTo s fd ⟨us, []⟩ ((["calls"] : List Str).zip us)) ∧
    ∀ base : Heap, K.In base → base.Ns mainGlobals mg → FnOk P w K mg base CX0 8 fa fd ["calls"] (spAns K) := all_ok t hfa
end
end Sl
end
set_option Elab.async false
open PySem PySem.W PyProof.Rows
set_option maxRecDepth 100000 in
set_option maxHeartbeats 0 in
theorem PySem.Challenge.cw_stagelamps_s01_answers_holds : PySem.Challenge.rw_stagelamps_s01_answers.Holds := by
  w_on
  refine holds_os (r := PySem.Challenge.rw_stagelamps_s01_answers) (XP := XL Sl.view []) (YP := (kHook Sl.objs Sl.ads Sl.ads_eq).says) Sl.left
    (kHook Sl.objs Sl.ads Sl.ads_eq).of (kHook Sl.objs Sl.ads Sl.ads_eq).keeps ?x1 XL.keeps (by rfl) (by rfl) (by rfl) ?x2 os_shapes ?x3 ?x4 ⟨rfl, rfl, rfl, rfl, rfl, ?x5⟩ ?hw ?hc
  case x1 => exact fun s e => xl_of s (Bool.and_eq_true_iff.mp e).1
  case x2 => exact fun s e => recFacts_of (Bool.and_eq_true_iff.mp e).2
  case x3 => decide +kernel
  case x4 => decide +kernel
  case x5 => decide +kernel
  case hw => exact ⟨[.list [.int 1]], by decide +kernel, by decide +kernel⟩
  k_fillS
  refine L2.walk_specK (r := PySem.Challenge.rw_stagelamps_s01_answers) (k := 8) (CX := L2.CX0) (ps := ["calls"]) (sp := Sl.spAns) (by decide +kernel) rfl rfl ⟨rfl, by decide, by decide⟩ (fun w h Y => PySem.W.kIn_of Y) ?F ?S (fun _ _ _ _ z => z)
  case F =>
    intro w mg fa h Y KX G hmg
    refine' Sl.all_ok2 ?top hmg
    case top =>
      refine' Sl.Top.mk ?k_cD ?g_cD ?n_cD_number ?n_cD_channel ?n_cD_curve ?n_cD_limit ?n_cD_load ?n_cD_phase ?k_cL ?g_cL ?n_cL_sums ?n_cL_phases ?k_cR ?g_cR ?n_cR_calls ?n_cR_place ?k_cK ?g_cK ?n_cK_dimmers ?n_cK_levels ?err ?g_cT ?g_tC ?tup ?i_0 ?i_1 ?i_2 ?i_3 ?i_4 ?i_5 ?i_6 ?i_7 ?i_8 ?i_9 ?i_10 ?i_11 ?i_12 ?i_13 ?i_14 ?i_15 ?i_16 ?i_17 ?i_18 ?i_19 ?i_20 ?i_21 ?i_22 ?i_23 ?i_24 ?i_25 ?i_26 ?i_27 ?i_28 ?i_29 ?i_30 ?i_31 ?i_32 ?b_len ?b_range ?b_enumerate ?b_ord ?b_str ?b_all ?b_sum ?b_max ?b_list ?d_nearest ?d_curve_at ?d_given_by ?d_least_level ?d_bytes_of ?d_lines_of ?d_fields_of ?d_is_decimal ?d_read_number ?d_read_curve ?d_read_dimmer ?d_read_patch ?d_write_dimmer ?d_write_patch ?d_no_loads_dealt ?d_next_dealings ?d_least_thinkable ?d_deal_evenly ?d_is_channel ?d_is_phase ?d_can_be_dealt ?d_answer_next ?d_answers ?m_with_load ?m_is_needless ?m_at_end ?m_take_number ?m_take_row ?m_level_of ?m_given_now ?m_find_dimmer ?m_answer_patch ?m_answer_print ?m_answer_set ?m_answer_level ?m_answer_out ?m_answer_outs ?m_answer_channel ?m_answer_needs ?m_answer_load ?m_answer_evenly
      case g_cD => (refine' PySem.W.mg_of KX G ?a; (case a => k_is))
      case g_cL => (refine' PySem.W.mg_of KX G ?a; (case a => k_is))
      case g_cR => (refine' PySem.W.mg_of KX G ?a; (case a => k_is))
      case g_cK => (refine' PySem.W.mg_of KX G ?a; (case a => k_is))
      case g_cT => (refine' PySem.W.mg_of KX G ?a; (case a => k_is))
      case g_tC => (refine' PySem.W.mg_of KX G ?a; (case a => k_is))
      case err => (refine' Sl.isErr ?ob ?ns ?hs ?a ?kc ?n1 ?n2 ?n3 ?n4 ?n5 ?b4 ?b5 ?l ?c ?k; (case ob => k_is); (case ns => k_is); (case hs => exact rfl); (case a => k_is); (case kc => k_is); (case n1 => k_is); (case n2 => k_is); (case n3 => k_is); (case n4 => k_is); (case n5 => k_is); (case b4 => kernel_rfl); (case b5 => kernel_rfl); (case l => k_is); (case c => k_is); (case k => k_is))
      case k_cD => (refine' Sl.isCls ?pg ?hd ?po ?sa ?mk ?kc ?a ?i ?l ?c ?k; (case pg => k_is); (case hd => k_is); (case po => k_is); (case sa => k_is); (case mk => k_is); (case kc => k_is); (case a => k_is); (case i => k_is); (case l => k_is); (case c => k_is); (case k => k_is))
      case n_cD_number => (refine' Sl.noAt ?a; (case a => k_is))
      case n_cD_channel => (refine' Sl.noAt ?a; (case a => k_is))
      case n_cD_curve => (refine' Sl.noAt ?a; (case a => k_is))
      case n_cD_limit => (refine' Sl.noAt ?a; (case a => k_is))
      case n_cD_load => (refine' Sl.noAt ?a; (case a => k_is))
      case n_cD_phase => (refine' Sl.noAt ?a; (case a => k_is))
      case k_cL => (refine' Sl.isCls ?pg ?hd ?po ?sa ?mk ?kc ?a ?i ?l ?c ?k; (case pg => k_is); (case hd => k_is); (case po => k_is); (case sa => k_is); (case mk => k_is); (case kc => k_is); (case a => k_is); (case i => k_is); (case l => k_is); (case c => k_is); (case k => k_is))
      case n_cL_sums => (refine' Sl.noAt ?a; (case a => k_is))
      case n_cL_phases => (refine' Sl.noAt ?a; (case a => k_is))
      case k_cR => (refine' Sl.isCls ?pg ?hd ?po ?sa ?mk ?kc ?a ?i ?l ?c ?k; (case pg => k_is); (case hd => k_is); (case po => k_is); (case sa => k_is); (case mk => k_is); (case kc => k_is); (case a => k_is); (case i => k_is); (case l => k_is); (case c => k_is); (case k => k_is))
      case n_cR_calls => (refine' Sl.noAt ?a; (case a => k_is))
      case n_cR_place => (refine' Sl.noAt ?a; (case a => k_is))
      case k_cK => (refine' Sl.isCls ?pg ?hd ?po ?sa ?mk ?kc ?a ?i ?l ?c ?k; (case pg => k_is); (case hd => k_is); (case po => k_is); (case sa => k_is); (case mk => k_is); (case kc => k_is); (case a => k_is); (case i => k_is); (case l => k_is); (case c => k_is); (case k => k_is))
      case n_cK_dimmers => (refine' Sl.noAt ?a; (case a => k_is))
      case n_cK_levels => (refine' Sl.noAt ?a; (case a => k_is))
      case tup => (refine' Sl.isTup ?a; (case a => k_is))
      case i_0 => (refine' Sl.isI KX G ?a; (case a => k_is))
      case i_1 => (refine' Sl.isI KX G ?a; (case a => k_is))
      case i_2 => (refine' Sl.isI KX G ?a; (case a => k_is))
      case i_3 => (refine' Sl.isI KX G ?a; (case a => k_is))
      case i_4 => (refine' Sl.isI KX G ?a; (case a => k_is))
      case i_5 => (refine' Sl.isI KX G ?a; (case a => k_is))
      case i_6 => (refine' Sl.isI KX G ?a; (case a => k_is))
      case i_7 => (refine' Sl.isI KX G ?a; (case a => k_is))
      case i_8 => (refine' Sl.isI KX G ?a; (case a => k_is))
      case i_9 => (refine' Sl.isI KX G ?a; (case a => k_is))
      case i_10 => (refine' Sl.isI KX G ?a; (case a => k_is))
      case i_11 => (refine' Sl.isI KX G ?a; (case a => k_is))
      case i_12 => (refine' Sl.isI KX G ?a; (case a => k_is))
      case i_13 => (refine' Sl.isI KX G ?a; (case a => k_is))
      case i_14 => (refine' Sl.isI KX G ?a; (case a => k_is))
      case i_15 => (refine' Sl.isI KX G ?a; (case a => k_is))
      case i_16 => (refine' Sl.isI KX G ?a; (case a => k_is))
      case i_17 => (refine' Sl.isI KX G ?a; (case a => k_is))
      case i_18 => (refine' Sl.isI KX G ?a; (case a => k_is))
      case i_19 => (refine' Sl.isI KX G ?a; (case a => k_is))
      case i_20 => (refine' Sl.isI KX G ?a; (case a => k_is))
      case i_21 => (refine' Sl.isI KX G ?a; (case a => k_is))
      case i_22 => (refine' Sl.isI KX G ?a; (case a => k_is))
      case i_23 => (refine' Sl.isI KX G ?a; (case a => k_is))
      case i_24 => (refine' Sl.isI KX G ?a; (case a => k_is))
      case i_25 => (refine' Sl.isI KX G ?a; (case a => k_is))
      case i_26 => (refine' Sl.isI KX G ?a; (case a => k_is))
      case i_27 => (refine' Sl.isI KX G ?a; (case a => k_is))
      case i_28 => (refine' Sl.isI KX G ?a; (case a => k_is))
      case i_29 => (refine' Sl.isI KX G ?a; (case a => k_is))
      case i_30 => (refine' Sl.isI KX G ?a; (case a => k_is))
      case i_31 => (refine' Sl.isI KX G ?a; (case a => k_is))
      case i_32 => (refine' Sl.isI KX G ?a; (case a => k_is))
      case b_len => (refine' PySem.W.mg_none_of KX G ?a; (case a => k_is))
      case b_range => (refine' PySem.W.mg_none_of KX G ?a; (case a => k_is))
      case b_enumerate => (refine' PySem.W.mg_none_of KX G ?a; (case a => k_is))
      case b_ord => (refine' PySem.W.mg_none_of KX G ?a; (case a => k_is))
      case b_str => (refine' PySem.W.mg_none_of KX G ?a; (case a => k_is))
      case b_all => (refine' PySem.W.mg_none_of KX G ?a; (case a => k_is))
      case b_sum => (refine' PySem.W.mg_none_of KX G ?a; (case a => k_is))
      case b_max => (refine' PySem.W.mg_none_of KX G ?a; (case a => k_is))
      case b_list => (refine' PySem.W.mg_none_of KX G ?a; (case a => k_is))
      case d_nearest => (refine' Sl.isDef KX G ?a ?l ?c ?k; (case a => k_is); (case l => k_is); (case c => k_is); (case k => k_is))
      case d_curve_at => (refine' Sl.isDef KX G ?a ?l ?c ?k; (case a => k_is); (case l => k_is); (case c => k_is); (case k => k_is))
      case d_given_by => (refine' Sl.isDef KX G ?a ?l ?c ?k; (case a => k_is); (case l => k_is); (case c => k_is); (case k => k_is))
      case d_least_level => (refine' Sl.isDef KX G ?a ?l ?c ?k; (case a => k_is); (case l => k_is); (case c => k_is); (case k => k_is))
      case d_bytes_of => (refine' Sl.isDef KX G ?a ?l ?c ?k; (case a => k_is); (case l => k_is); (case c => k_is); (case k => k_is))
      case d_lines_of => (refine' Sl.isDef KX G ?a ?l ?c ?k; (case a => k_is); (case l => k_is); (case c => k_is); (case k => k_is))
      case d_fields_of => (refine' Sl.isDef KX G ?a ?l ?c ?k; (case a => k_is); (case l => k_is); (case c => k_is); (case k => k_is))
      case d_is_decimal => (refine' Sl.isDef KX G ?a ?l ?c ?k; (case a => k_is); (case l => k_is); (case c => k_is); (case k => k_is))
      case d_read_number => (refine' Sl.isDef KX G ?a ?l ?c ?k; (case a => k_is); (case l => k_is); (case c => k_is); (case k => k_is))
      case d_read_curve => (refine' Sl.isDef KX G ?a ?l ?c ?k; (case a => k_is); (case l => k_is); (case c => k_is); (case k => k_is))
      case d_read_dimmer => (refine' Sl.isDef KX G ?a ?l ?c ?k; (case a => k_is); (case l => k_is); (case c => k_is); (case k => k_is))
      case d_read_patch => (refine' Sl.isDef KX G ?a ?l ?c ?k; (case a => k_is); (case l => k_is); (case c => k_is); (case k => k_is))
      case d_write_dimmer => (refine' Sl.isDef KX G ?a ?l ?c ?k; (case a => k_is); (case l => k_is); (case c => k_is); (case k => k_is))
      case d_write_patch => (refine' Sl.isDef KX G ?a ?l ?c ?k; (case a => k_is); (case l => k_is); (case c => k_is); (case k => k_is))
      case d_no_loads_dealt => (refine' Sl.isDef KX G ?a ?l ?c ?k; (case a => k_is); (case l => k_is); (case c => k_is); (case k => k_is))
      case d_next_dealings => (refine' Sl.isDef KX G ?a ?l ?c ?k; (case a => k_is); (case l => k_is); (case c => k_is); (case k => k_is))
      case d_least_thinkable => (refine' Sl.isDef KX G ?a ?l ?c ?k; (case a => k_is); (case l => k_is); (case c => k_is); (case k => k_is))
      case d_deal_evenly => (refine' Sl.isDef KX G ?a ?l ?c ?k; (case a => k_is); (case l => k_is); (case c => k_is); (case k => k_is))
      case d_is_channel => (refine' Sl.isDef KX G ?a ?l ?c ?k; (case a => k_is); (case l => k_is); (case c => k_is); (case k => k_is))
      case d_is_phase => (refine' Sl.isDef KX G ?a ?l ?c ?k; (case a => k_is); (case l => k_is); (case c => k_is); (case k => k_is))
      case d_can_be_dealt => (refine' Sl.isDef KX G ?a ?l ?c ?k; (case a => k_is); (case l => k_is); (case c => k_is); (case k => k_is))
      case d_answer_next => (refine' Sl.isDef KX G ?a ?l ?c ?k; (case a => k_is); (case l => k_is); (case c => k_is); (case k => k_is))
      case d_answers => (refine' Sl.isDef KX G ?a ?l ?c ?k; (case a => k_is); (case l => k_is); (case c => k_is); (case k => k_is))
      case m_with_load => (refine' Sl.isMeth ?a ?i ?l ?c ?k; (case a => k_is); (case i => k_is); (case l => k_is); (case c => k_is); (case k => k_is))
      case m_is_needless => (refine' Sl.isMeth ?a ?i ?l ?c ?k; (case a => k_is); (case i => k_is); (case l => k_is); (case c => k_is); (case k => k_is))
      case m_at_end => (refine' Sl.isMeth ?a ?i ?l ?c ?k; (case a => k_is); (case i => k_is); (case l => k_is); (case c => k_is); (case k => k_is))
      case m_take_number => (refine' Sl.isMeth ?a ?i ?l ?c ?k; (case a => k_is); (case i => k_is); (case l => k_is); (case c => k_is); (case k => k_is))
      case m_take_row => (refine' Sl.isMeth ?a ?i ?l ?c ?k; (case a => k_is); (case i => k_is); (case l => k_is); (case c => k_is); (case k => k_is))
      case m_level_of => (refine' Sl.isMeth ?a ?i ?l ?c ?k; (case a => k_is); (case i => k_is); (case l => k_is); (case c => k_is); (case k => k_is))
      case m_given_now => (refine' Sl.isMeth ?a ?i ?l ?c ?k; (case a => k_is); (case i => k_is); (case l => k_is); (case c => k_is); (case k => k_is))
      case m_find_dimmer => (refine' Sl.isMeth ?a ?i ?l ?c ?k; (case a => k_is); (case i => k_is); (case l => k_is); (case c => k_is); (case k => k_is))
      case m_answer_patch => (refine' Sl.isMeth ?a ?i ?l ?c ?k; (case a => k_is); (case i => k_is); (case l => k_is); (case c => k_is); (case k => k_is))
      case m_answer_print => (refine' Sl.isMeth ?a ?i ?l ?c ?k; (case a => k_is); (case i => k_is); (case l => k_is); (case c => k_is); (case k => k_is))
      case m_answer_set => (refine' Sl.isMeth ?a ?i ?l ?c ?k; (case a => k_is); (case i => k_is); (case l => k_is); (case c => k_is); (case k => k_is))
      case m_answer_level => (refine' Sl.isMeth ?a ?i ?l ?c ?k; (case a => k_is); (case i => k_is); (case l => k_is); (case c => k_is); (case k => k_is))
      case m_answer_out => (refine' Sl.isMeth ?a ?i ?l ?c ?k; (case a => k_is); (case i => k_is); (case l => k_is); (case c => k_is); (case k => k_is))
      case m_answer_outs => (refine' Sl.isMeth ?a ?i ?l ?c ?k; (case a => k_is); (case i => k_is); (case l => k_is); (case c => k_is); (case k => k_is))
      case m_answer_channel => (refine' Sl.isMeth ?a ?i ?l ?c ?k; (case a => k_is); (case i => k_is); (case l => k_is); (case c => k_is); (case k => k_is))
      case m_answer_needs => (refine' Sl.isMeth ?a ?i ?l ?c ?k; (case a => k_is); (case i => k_is); (case l => k_is); (case c => k_is); (case k => k_is))
      case m_answer_load => (refine' Sl.isMeth ?a ?i ?l ?c ?k; (case a => k_is); (case i => k_is); (case l => k_is); (case c => k_is); (case k => k_is))
      case m_answer_evenly => (refine' Sl.isMeth ?a ?i ?l ?c ?k; (case a => k_is); (case i => k_is); (case l => k_is); (case c => k_is); (case k => k_is))
  case S =>
    intro K H xs a hO hwi hask hx
    cases hx with
    | cons h1 h2 =>
      cases h2
      cases h1 with
      | lst hs ha =>
        have e := L2.ints_dw a.1 _ ha
        subst e
        have q : ((Codec.inLen 0 30000 a.1 && a.1.all (Codec.inInt 0 4294967295)) && true) = true := hwi
        rw [Bool.and_eq_true, Bool.and_eq_true] at q
        exact ⟨_, a.1, rfl, hs, Nat.le_trans (Codec.inNat_iff.mp q.1.1).2 (by decide), hask, fun H' p hp => .lst (L2.SqL.of hp) (L2.dw_ints _)⟩
#print axioms PySem.Challenge.cw_stagelamps_s01_answers_holds
