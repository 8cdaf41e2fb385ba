import PyProof.Rows.All
import Wide.All
import OpenK.AllK
import Wide.FinOn
import PyProof.EqAt
import PyProof.EqKinds
import PyProof.TupleCall
import KE.BitLaws
import Open.SpecLaws
import KE.OsHead
import KE.OsGo
import PyProof.InstStoreFacts
import PyProof.ExcBaseAll.Exception
import PyProof.StationsW
import PyProof.ExcArgs
import PyProof.ExcAttrAll.Exception
import OpenK.KMake
import PyProof.RulesAs
import PySem.Challenge.RW_bouncetable_s01_answers
section
namespace L2
open PySem PySem.Spec PyProof.Rows
def inClass (s : Stmt) (j : Nat) : Stmt := match s with
  | .ClassDef _ _ _ body _ _ _ _ _ _ _ => body.getD j (.Pass ⟨0, 0, 0, 0⟩)
  | _ => .Pass ⟨0, 0, 0, 0⟩
def defArgs (s : Stmt) : Arguments := match s with
  | .FunctionDef _ a _ _ _ _ _ _ _ _ => a
  | _ => { posonlyargs := [], args := [], vararg := none, kwonlyargs := [], kw_defaults := [], kwarg := none, defaults := [] }
def defBody (s : Stmt) : List Stmt := match s with
  | .FunctionDef _ _ b _ _ _ _ _ _ _ => b
  | _ => []
def defScope (s : Stmt) : Scope := match s with
  | .FunctionDef _ _ _ _ _ _ sc _ _ _ => sc
  | _ => { kind := .function, names := [], isGenerator := false, isCoroutine := false }
end L2
end
section
set_option Elab.async false
set_option linter.all false
set_option maxRecDepth 100000
set_option maxHeartbeats 0
namespace Br
open PySem PySem.W L2
def top (i : Nat) : Stmt := PySem.Challenge.pw_bouncetable_s01_answers.main.body.getD i (.Pass ⟨0, 0, 0, 0⟩)
def cp : Str := "/claim/cut.py"
def fO (n q : Str) (s : Stmt) (d : Value) (m : Str) (t c : Nat) : Obj := { cls := .type "function", data := .func (fnOf n q (defArgs s) (defBody s) (defScope s) d .none .none (.str m t) none (.ref c) .none) }
def tO (l : Array Value) : Obj := { cls := .type "tuple", data := .seq l }
def cO (l : Array Value) : Obj := { cls := .type "code", data := .fields l }
def cQ (n q : Str) (t l a r e : Nat) : Obj := cO #[.str n t, .str q (t + 1), .str cp (t + 2), .int l 0, .int a 0, .int 0 0, .int 0 0, .int 3 0, .ref r, .bool true, .int 181 0, .ref (r + 1), .none, .ref (r + 2), .ref (r + 3), .ref (r + 4), .int e 0, .int l 0, .str cp (e + 1)]
def dO (l : Array DictEntry) (n : Nat) : Obj := { cls := .type "dict", data := .dict l n }
def dE (P : Params) (k : Str) (t : Nat) (v : Value) : DictEntry := { hash := PyData.keyHash P k, key := .str k t, val := v }
def KF : Params → Frag := fun P =>
(nat_lit 3, dO #[dE P "__name__" 165 (.str "bouncetable.switches" 752), dE P "__doc__" 166 (.none), dE P "__package__" 167 (.none), dE P "__loader__" 168 (.builtin "__main__.__loader__#opaque"), dE P "__spec__" 169 (.none), dE P "__annotations__" 170 (.ref 6), dE P "__builtins__" 171 (.ref 4), dE P "__file__" 173 (.str cp 172), dE P "__cached__" 174 (.none), dE P "NOT_ENDED" 190 (.int 1 189), dE P "WRONG_BYTE" 192 (.int 2 191), dE P "WRONG_WORD" 194 (.int 3 193), dE P "WRONG_FORM" 196 (.int 4 195), dE P "NOT_NEW" 198 (.int 5 197), dE P "UNKNOWN" 200 (.int 6 199), dE P "CLASHING" 202 (.int 7 201), dE P "FEW_DRAINS" 204 (.int 8 203), dE P "Fault" 235 (.ref 31), dE P "COLUMNS" 239 (.int 8 238), dE P "OPENED" 241 (.int 64 240), dE P "Switch" 302 (.ref 72), dE P "Matrix" 350 (.ref 105), dE P "NEWLINE" 354 (.int 10 353), dE P "BLANK" 356 (.int 32 355), dE P "LAST_SIGN" 358 (.int 126 357), dE P "LETTERS" 360 (.str "abcdefghijklmnopqrstuvwxyz" 359), dE P "DIGITS" 362 (.str "0123456789" 361), dE P "UNDERSCORE" 364 (.str "_" 363), dE P "LONGEST_NAME" 366 (.int 12 365), dE P "LONGEST_NUMBER" 368 (.int 4 367), dE P "sign_of" 375 (.ref 116), dE P "is_name" 381 (.ref 121), dE P "number_of" 387 (.ref 126), dE P "Line" 494 (.ref 206), dE P "end_of_line" 503 (.ref 217), dE P "check_bytes" 514 (.ref 224), dE P "places_of_words" 525 (.ref 231), dE P "line_at" 531 (.ref 236), dE P "SORTS" 539 (.ref 237), dE P "MOST_BALLS" 541 (.int 8 540), dE P "LAST_PLACE" 543 (.int 63 542), dE P "LAST_COIL_PLACE" 545 (.int 31 544), dE P "MOST_SAMPLES" 547 (.int 31 546), dE P "MOST_ON" 549 (.int 1023 548), dE P "MOST_REST" 551 (.int 4095 550), dE P "MOST_HOLD" 553 (.int 15 552), dE P "MOST_DEVICES" 555 (.int 8 554), dE P "MOST_HELD" 557 (.int 8 556), dE P "MOST_KICKS" 559 (.int 8 558), dE P "MOST_SPAN" 561 (.int 255 560), dE P "NO_SWITCH_NAME" 563 (.str "drain" 562), dE P "NO_LAMP_NAME" 565 (.str "loop" 564), dE P "Table" 602 (.ref 254), dE P "take_new_name" 613 (.ref 266), dE P "take_known_name" 622 (.ref 273), dE P "reach" 632 (.ref 280), dE P "take_place" 643 (.ref 287), dE P "take_free_coil" 652 (.ref 294), dE P "hold_switch" 661 (.ref 301), dE P "read_head" 669 (.ref 308), dE P "read_switch" 681 (.ref 315), dE P "read_lamp" 690 (.ref 322), dE P "read_coil" 700 (.ref 329), dE P "read_device" 710 (.ref 336), dE P "read_kick" 722 (.ref 343), dE P "take_sort" 732 (.ref 350), dE P "read_rest" 741 (.ref 357), dE P "read_table" 751 (.ref 364), dE P "BEGIN" 755 (.int 1 754), dE P "ROWS" 757 (.int 2 756), dE P "SOON" 759 (.int 3 758), dE P "STANDS" 761 (.int 4 760), dE P "TICK" 763 (.int 5 762), dE P "DONE" 765 (.int 0 764), dE P "NO_SUCH_PLACE" 768 (.int (-1) 767), dE P "TOO_LONG" 771 (.int (-2) 770), dE P "NO_SWITCH" 774 (.int (-4) 773), dE P "FAULTY" 777 (.int (-6) 776), dE P "NOTHING_BEGUN" 780 (.int (-10) 779), dE P "MOST_BYTES" 782 (.int 16384 781), dE P "MOST_ROWS" 784 (.int 65536 783), dE P "Bench" 868 (.ref 423), dE P "length_of_call" 876 (.ref 434), dE P "answer" 884 (.ref 441), dE P "answers" 896 (.ref 448)] 85) ::
(nat_lit 27, cQ "__init__" "Fault.__init__" 217 12 3 22 223) ::
(nat_lit 28, fO "__init__" "Fault.__init__" (inClass (top 9) 0) .none "bouncetable.faults" 187 27) ::
(nat_lit 30, dO #[dE P "__module__" 212 (.str "bouncetable.faults" 187), dE P "__firstlineno__" 216 (.int 10 215), dE P "__init__" 225 (.ref 28), dE P "__static_attributes__" 228 (.ref 29), dE P "__weakref__" 230 (.ref 32), dE P "__doc__" 231 (.none)] 3) ::
(nat_lit 31, { cls := .type "type", data := .cls { name := "Fault", bases := [.type "Exception"], mro := [.ref 31, .type "Exception", .type "BaseException", .type "object"], ns := 30, qualname := "Fault" }, slots := #[some (.ref 15), none, some (.str "Fault" 205), some (.str "Fault" 213), some (.builtin "Exception.__new__"), some (.bool true)] }) ::
(nat_lit 47, cQ "__init__" "Switch.__init__" 254 20 5 42 262) ::
(nat_lit 48, fO "__init__" "Switch.__init__" (inClass (top 13) 0) .none "bouncetable.matrix" 236 47) ::
(nat_lit 54, cQ "lacking" "Switch.lacking" 265 28 1 49 270) ::
(nat_lit 55, fO "lacking" "Switch.lacking" (inClass (top 13) 1) .none "bouncetable.matrix" 236 54) ::
(nat_lit 61, cQ "turn_by" "Switch.turn_by" 273 32 2 56 279) ::
(nat_lit 62, fO "turn_by" "Switch.turn_by" (inClass (top 13) 2) .none "bouncetable.matrix" 236 61) ::
(nat_lit 68, cQ "event" "Switch.event" 282 46 1 63 286) ::
(nat_lit 69, fO "event" "Switch.event" (inClass (top 13) 3) .none "bouncetable.matrix" 236 68) ::
(nat_lit 71, dO #[dE P "__module__" 249 (.str "bouncetable.matrix" 236), dE P "__firstlineno__" 253 (.int 18 252), dE P "__init__" 264 (.ref 48), dE P "lacking" 272 (.ref 55), dE P "turn_by" 281 (.ref 62), dE P "event" 288 (.ref 69), dE P "__static_attributes__" 295 (.ref 70), dE P "__dict__" 297 (.ref 73), dE P "__weakref__" 299 (.ref 74), dE P "__doc__" 300 (.none)] 4) ::
(nat_lit 72, { cls := .type "type", data := .cls { name := "Switch", bases := [.type "object"], mro := [.ref 72, .type "object"], ns := 71, qualname := "Switch" }, slots := #[none, none, some (.str "Switch" 242), some (.str "Switch" 250), some (.builtin "object.__new__"), some (.bool true)] }) ::
(nat_lit 87, cO #[.str "__init__" 315, .str "Matrix.__init__" 316, .str cp 317, .int 50 0, .int 2 0, .int 0 0, .int 0 0, .int 3 0, .ref 84, .bool true, .int 181 0, .ref 85, .none, .none, .none, .ref 86, .int 318 0, .int 50 0, .str cp 319]) ::
(nat_lit 88, fO "__init__" "Matrix.__init__" (inClass (top 14) 0) .none "bouncetable.matrix" 236 87) ::
(nat_lit 94, cQ "take_row" "Matrix.take_row" 321 59 2 89 328) ::
(nat_lit 95, fO "take_row" "Matrix.take_row" (inClass (top 14) 1) .none "bouncetable.matrix" 236 94) ::
(nat_lit 101, cQ "ticks_until_told" "Matrix.ticks_until_told" 331 67 2 96 337) ::
(nat_lit 102, fO "ticks_until_told" "Matrix.ticks_until_told" (inClass (top 14) 2) .none "bouncetable.matrix" 236 101) ::
(nat_lit 104, dO #[dE P "__module__" 310 (.str "bouncetable.matrix" 236), dE P "__firstlineno__" 314 (.int 48 313), dE P "__init__" 320 (.ref 88), dE P "take_row" 330 (.ref 95), dE P "ticks_until_told" 339 (.ref 102), dE P "__static_attributes__" 343 (.ref 103), dE P "__dict__" 345 (.ref 106), dE P "__weakref__" 347 (.ref 107), dE P "__doc__" 348 (.none)] 4) ::
(nat_lit 105, { cls := .type "type", data := .cls { name := "Matrix", bases := [.type "object"], mro := [.ref 105, .type "object"], ns := 104, qualname := "Matrix" }, slots := #[none, none, some (.str "Matrix" 303), some (.str "Matrix" 311), some (.builtin "object.__new__"), some (.bool true)] }) ::
(nat_lit 115, cQ "sign_of" "sign_of" 369 79 1 110 373) ::
(nat_lit 116, fO "sign_of" "sign_of" (top 24) .none "bouncetable.lines" 351 115) ::
(nat_lit 120, cO #[.str "is_name" 376, .str "is_name" 377, .str cp 378, .int 87 0, .int 1 0, .int 0 0, .int 0 0, .int 3 0, .ref 117, .bool true, .int 181 0, .ref 118, .none, .none, .none, .ref 119, .int 379 0, .int 87 0, .str cp 380]) ::
(nat_lit 121, fO "is_name" "is_name" (top 25) .none "bouncetable.lines" 351 120) ::
(nat_lit 125, cO #[.str "number_of" 382, .str "number_of" 383, .str cp 384, .int 91 0, .int 1 0, .int 0 0, .int 0 0, .int 3 0, .ref 122, .bool true, .int 181 0, .ref 123, .none, .none, .none, .ref 124, .int 385 0, .int 91 0, .str cp 386]) ::
(nat_lit 126, fO "number_of" "number_of" (top 26) .none "bouncetable.lines" 351 125) ::
(nat_lit 139, cQ "__init__" "Line.__init__" 400 99 4 134 407) ::
(nat_lit 140, fO "__init__" "Line.__init__" (inClass (top 27) 0) .none "bouncetable.lines" 351 139) ::
(nat_lit 146, cQ "more" "Line.more" 410 105 1 141 414) ::
(nat_lit 147, fO "more" "Line.more" (inClass (top 27) 1) .none "bouncetable.lines" 351 146) ::
(nat_lit 153, cQ "take" "Line.take" 417 108 1 148 421) ::
(nat_lit 154, fO "take" "Line.take" (inClass (top 27) 2) .none "bouncetable.lines" 351 153) ::
(nat_lit 160, cQ "refuse_if" "Line.refuse_if" 424 114 3 155 430) ::
(nat_lit 161, fO "refuse_if" "Line.refuse_if" (inClass (top 27) 3) .none "bouncetable.lines" 351 160) ::
(nat_lit 167, cQ "comes" "Line.comes" 433 118 2 162 438) ::
(nat_lit 168, fO "comes" "Line.comes" (inClass (top 27) 4) .none "bouncetable.lines" 351 167) ::
(nat_lit 174, cQ "take_fixed" "Line.take_fixed" 441 121 2 169 446) ::
(nat_lit 175, fO "take_fixed" "Line.take_fixed" (inClass (top 27) 5) .none "bouncetable.lines" 351 174) ::
(nat_lit 181, cQ "take_if" "Line.take_if" 449 124 2 176 455) ::
(nat_lit 182, fO "take_if" "Line.take_if" (inClass (top 27) 6) .none "bouncetable.lines" 351 181) ::
(nat_lit 188, cQ "take_name" "Line.take_name" 458 130 1 183 463) ::
(nat_lit 189, fO "take_name" "Line.take_name" (inClass (top 27) 7) .none "bouncetable.lines" 351 188) ::
(nat_lit 195, cQ "take_number" "Line.take_number" 466 135 3 190 473) ::
(nat_lit 196, fO "take_number" "Line.take_number" (inClass (top 27) 8) .none "bouncetable.lines" 351 195) ::
(nat_lit 202, cQ "finish" "Line.finish" 476 140 1 197 480) ::
(nat_lit 203, fO "finish" "Line.finish" (inClass (top 27) 9) .none "bouncetable.lines" 351 202) ::
(nat_lit 205, dO #[dE P "__module__" 395 (.str "bouncetable.lines" 351), dE P "__firstlineno__" 399 (.int 97 398), dE P "__init__" 409 (.ref 140), dE P "more" 416 (.ref 147), dE P "take" 423 (.ref 154), dE P "refuse_if" 432 (.ref 161), dE P "comes" 440 (.ref 168), dE P "take_fixed" 448 (.ref 175), dE P "take_if" 457 (.ref 182), dE P "take_name" 465 (.ref 189), dE P "take_number" 475 (.ref 196), dE P "finish" 482 (.ref 203), dE P "__static_attributes__" 487 (.ref 204), dE P "__dict__" 489 (.ref 207), dE P "__weakref__" 491 (.ref 208), dE P "__doc__" 492 (.none)] 4) ::
(nat_lit 206, { cls := .type "type", data := .cls { name := "Line", bases := [.type "object"], mro := [.ref 206, .type "object"], ns := 205, qualname := "Line" }, slots := #[none, none, some (.str "Line" 388), some (.str "Line" 396), some (.builtin "object.__new__"), some (.bool true)] }) ::
(nat_lit 216, cQ "end_of_line" "end_of_line" 495 143 2 211 501) ::
(nat_lit 217, fO "end_of_line" "end_of_line" (top 28) .none "bouncetable.lines" 351 216) ::
(nat_lit 223, cQ "check_bytes" "check_bytes" 504 150 3 218 512) ::
(nat_lit 224, fO "check_bytes" "check_bytes" (top 29) .none "bouncetable.lines" 351 223) ::
(nat_lit 230, cQ "places_of_words" "places_of_words" 515 157 3 225 523) ::
(nat_lit 231, fO "places_of_words" "places_of_words" (top 30) .none "bouncetable.lines" 351 230) ::
(nat_lit 235, cO #[.str "line_at" 526, .str "line_at" 527, .str cp 528, .int 163 0, .int 2 0, .int 0 0, .int 0 0, .int 3 0, .ref 232, .bool true, .int 181 0, .ref 233, .none, .none, .none, .ref 234, .int 529 0, .int 163 0, .str cp 530]) ::
(nat_lit 236, fO "line_at" "line_at" (top 31) .none "bouncetable.lines" 351 235) ::
(nat_lit 237, tO #[.str "switch" 534, .str "lamp" 535, .str "coil" 536, .str "device" 537, .str "kick" 538]) ::
(nat_lit 250, cQ "__init__" "Table.__init__" 578 185 1 245 582) ::
(nat_lit 251, fO "__init__" "Table.__init__" (inClass (top 47) 0) .none "bouncetable.tables" 532 250) ::
(nat_lit 253, dO #[dE P "__module__" 573 (.str "bouncetable.tables" 532), dE P "__firstlineno__" 577 (.int 183 576), dE P "__init__" 584 (.ref 251), dE P "__static_attributes__" 595 (.ref 252), dE P "__dict__" 597 (.ref 255), dE P "__weakref__" 599 (.ref 256), dE P "__doc__" 600 (.none)] 4) ::
(nat_lit 254, { cls := .type "type", data := .cls { name := "Table", bases := [.type "object"], mro := [.ref 254, .type "object"], ns := 253, qualname := "Table" }, slots := #[none, none, some (.str "Table" 566), some (.str "Table" 574), some (.builtin "object.__new__"), some (.bool true)] }) ::
(nat_lit 259, tO #[.str "" 603]) ::
(nat_lit 265, cQ "take_new_name" "take_new_name" 604 196 3 260 611) ::
(nat_lit 266, fO "take_new_name" "take_new_name" (top 48) (.ref 259) "bouncetable.tables" 532 265) ::
(nat_lit 272, cQ "take_known_name" "take_known_name" 614 201 2 267 620) ::
(nat_lit 273, fO "take_known_name" "take_known_name" (top 49) .none "bouncetable.tables" 532 272) ::
(nat_lit 279, cQ "reach" "reach" 623 205 4 274 630) ::
(nat_lit 280, fO "reach" "reach" (top 50) .none "bouncetable.tables" 532 279) ::
(nat_lit 286, cQ "take_place" "take_place" 633 208 4 281 641) ::
(nat_lit 287, fO "take_place" "take_place" (top 51) .none "bouncetable.tables" 532 286) ::
(nat_lit 293, cQ "take_free_coil" "take_free_coil" 644 213 2 288 650) ::
(nat_lit 294, fO "take_free_coil" "take_free_coil" (top 52) .none "bouncetable.tables" 532 293) ::
(nat_lit 300, cQ "hold_switch" "hold_switch" 653 218 2 295 659) ::
(nat_lit 301, fO "hold_switch" "hold_switch" (top 53) .none "bouncetable.tables" 532 300) ::
(nat_lit 307, cQ "read_head" "read_head" 662 222 2 302 667) ::
(nat_lit 308, fO "read_head" "read_head" (top 54) .none "bouncetable.tables" 532 307) ::
(nat_lit 314, cQ "read_switch" "read_switch" 670 227 2 309 679) ::
(nat_lit 315, fO "read_switch" "read_switch" (top 55) .none "bouncetable.tables" 532 314) ::
(nat_lit 321, cQ "read_lamp" "read_lamp" 682 235 2 316 688) ::
(nat_lit 322, fO "read_lamp" "read_lamp" (top 56) .none "bouncetable.tables" 532 321) ::
(nat_lit 328, cQ "read_coil" "read_coil" 691 239 2 323 698) ::
(nat_lit 329, fO "read_coil" "read_coil" (top 57) .none "bouncetable.tables" 532 328) ::
(nat_lit 335, cQ "read_device" "read_device" 701 249 2 330 708) ::
(nat_lit 336, fO "read_device" "read_device" (top 58) .none "bouncetable.tables" 532 335) ::
(nat_lit 342, cQ "read_kick" "read_kick" 711 262 2 337 720) ::
(nat_lit 343, fO "read_kick" "read_kick" (top 59) .none "bouncetable.tables" 532 342) ::
(nat_lit 349, cQ "take_sort" "take_sort" 723 274 3 344 730) ::
(nat_lit 350, fO "take_sort" "take_sort" (top 60) .none "bouncetable.tables" 532 349) ::
(nat_lit 356, cQ "read_rest" "read_rest" 733 281 3 351 739) ::
(nat_lit 357, fO "read_rest" "read_rest" (top 61) .none "bouncetable.tables" 532 356) ::
(nat_lit 363, cQ "read_table" "read_table" 742 292 1 358 749) ::
(nat_lit 364, fO "read_table" "read_table" (top 62) .none "bouncetable.tables" 532 363) ::
(nat_lit 377, cQ "__init__" "Bench.__init__" 797 322 1 372 801) ::
(nat_lit 378, fO "__init__" "Bench.__init__" (inClass (top 77) 0) .none "bouncetable.switches" 752 377) ::
(nat_lit 384, cQ "begin" "Bench.begin" 804 325 2 379 811) ::
(nat_lit 385, fO "begin" "Bench.begin" (inClass (top 77) 1) .none "bouncetable.switches" 752 384) ::
(nat_lit 391, cQ "rows" "Bench.rows" 814 335 2 386 823) ::
(nat_lit 392, fO "rows" "Bench.rows" (inClass (top 77) 2) .none "bouncetable.switches" 752 391) ::
(nat_lit 398, cQ "refusal" "Bench.refusal" 826 345 2 393 831) ::
(nat_lit 399, fO "refusal" "Bench.refusal" (inClass (top 77) 3) .none "bouncetable.switches" 752 398) ::
(nat_lit 405, cQ "soon" "Bench.soon" 834 350 2 400 840) ::
(nat_lit 406, fO "soon" "Bench.soon" (inClass (top 77) 4) .none "bouncetable.switches" 752 405) ::
(nat_lit 412, cQ "stands" "Bench.stands" 843 356 2 407 850) ::
(nat_lit 413, fO "stands" "Bench.stands" (inClass (top 77) 5) .none "bouncetable.switches" 752 412) ::
(nat_lit 419, cQ "tick" "Bench.tick" 853 363 1 414 857) ::
(nat_lit 420, fO "tick" "Bench.tick" (inClass (top 77) 6) .none "bouncetable.switches" 752 419) ::
(nat_lit 422, dO #[dE P "__module__" 792 (.str "bouncetable.switches" 752), dE P "__firstlineno__" 796 (.int 320 795), dE P "__init__" 803 (.ref 378), dE P "begin" 813 (.ref 385), dE P "rows" 825 (.ref 392), dE P "refusal" 833 (.ref 399), dE P "soon" 842 (.ref 406), dE P "stands" 852 (.ref 413), dE P "tick" 859 (.ref 420), dE P "__static_attributes__" 861 (.ref 421), dE P "__dict__" 863 (.ref 424), dE P "__weakref__" 865 (.ref 425), dE P "__doc__" 866 (.none)] 4) ::
(nat_lit 423, { cls := .type "type", data := .cls { name := "Bench", bases := [.type "object"], mro := [.ref 423, .type "object"], ns := 422, qualname := "Bench" }, slots := #[none, none, some (.str "Bench" 785), some (.str "Bench" 793), some (.builtin "object.__new__"), some (.bool true)] }) ::
(nat_lit 433, cQ "length_of_call" "length_of_call" 869 365 2 428 874) ::
(nat_lit 434, fO "length_of_call" "length_of_call" (top 78) .none "bouncetable.switches" 752 433) ::
(nat_lit 440, cQ "answer" "answer" 877 371 2 435 882) ::
(nat_lit 441, fO "answer" "answer" (top 79) .none "bouncetable.switches" 752 440) ::
(nat_lit 447, cQ "answers" "answers" 885 383 1 442 894) ::
(nat_lit 448, fO "answers" "answers" (top 80) .none "bouncetable.switches" 752 447) :: []
def vw : Program := PySem.W.view PySem.Challenge.pw_bouncetable_s01_answers ((List.range 81).filter fun i => !([0, 10, 15, 32, 48, 63].contains i))
def HK : Hook := kHook KF [3, 27, 28, 30, 31, 47, 48, 54, 55, 61, 62, 68, 69, 71, 72, 87, 88, 94, 95, 101, 102, 104, 105, 115, 116, 120, 121, 125, 126, 139, 140, 146, 147, 153, 154, 160, 161, 167, 168, 174, 175, 181, 182, 188, 189, 195, 196, 202, 203, 205, 206, 216, 217, 223, 224, 230, 231, 235, 236, 237, 250, 251, 253, 254, 259, 265, 266, 272, 273, 279, 280, 286, 287, 293, 294, 300, 301, 307, 308, 314, 315, 321, 322, 328, 329, 335, 336, 342, 343, 349, 350, 356, 357, 363, 364, 377, 378, 384, 385, 391, 392, 398, 399, 405, 406, 412, 413, 419, 420, 422, 423, 433, 434, 440, 441, 447, 448] (fun _ => by kernel_rfl)
end Br
end
section
set_option Elab.async false
set_option linter.all false
set_option maxRecDepth 100000
set_option maxHeartbeats 0
namespace Br
open PySem PySem.W PyProof.Rows L2
noncomputable def Rn (w : World) (os : OsState) : Option Shared := PySem.W.Fast.tw14082659384304107361 PySem.W.Fast.tw14364793385576792824 PySem.Challenge.pw_bouncetable_s01_answers w (boot_heap w.params).objs.size ((boot_heap w.params).nsMap mainGlobals "__annotations__") 6664 ⟨boot_heap w.params, Array.mk [], boot_drawn, boot_toks, os⟩ (topStub PySem.Challenge.pw_bouncetable_s01_answers)
noncomputable def Tn (s : Shared) := PySem.W.Fast.tw4187177175401517315 vw ["take_new_name"] (importedModules PySem.Challenge.pw_bouncetable_s01_answers.main.body) (fun s => xlAt vw [] s && recOk [] s) true s
end Br
end
section
set_option Elab.async false
set_option linter.all false
set_option maxRecDepth 100000
set_option maxHeartbeats 0
namespace Br
open PySem PySem.W PyProof.Rows L2
theorem left_of {p q : Program} {loose : List Str} {Xt : Shared → Bool} {α : Type} {Yf : Shared → α} {Ya : World → α} {N : Nat} {g0 : Bool} {Rn : World → OsState → Option Shared}
    (e : opening p = plainProg p.main.scope.names) (hN : Nat.ble 600 N = true) (f : ∀ s, fenceModules? p s = some s)
    (hR : ∀ w os, topRun treeTable p w (boot_heap w.params).objs.size ((boot_heap w.params).nsMap mainGlobals "__annotations__") N ⟨boot_heap w.params, Array.mk [], boot_drawn, boot_toks, os⟩ (topStub p) = Rn w os)
    (z : ∀ w : World, ((boot_heap w.params).isNs mainGlobals && (Array.mk [] : Array GenState).size == 0) = true)
    (ha : ∀ w os, (Rn w os).map (fun s => (s.heap.keysOk (looseW q loose) ((recsOf q).map (·.name)) ((litsOf q).map (·.1)) ((clssOf q (looseW q loose)).map (·.name)), (openSeen q loose (importedModules p.main.body) Xt g0 s).2.2.2.1)) = some (true, true))
    (hb : ∀ w os, (Rn w os).map (fun s => (s.heap.accountedOkI (importedModules p.main.body) && s.heap.isNs mainGlobals && s.heap.isNs builtinsNs && tablesOk q s.heap && Xt s && (if g0 then s.gens.size == 0 else !leftWithCleanup s.gens), (openSeen q loose (importedModules p.main.body) Xt g0 s).1)) = some (true, ⟨(recsOf q).map fun d => some d.shape, true, [], true, true, true, 0⟩))
    (hc : ∀ w os, (Rn w os).map (fun s => (staticsOk (importedModules p.main.body) (boot_heap w.params) s.heap && namesBound p s.heap && gensDone s && laidKept (boot_heap w.params) s.heap, (openSeen q loose (importedModules p.main.body) Xt g0 s).2.1, (openSeen q loose (importedModules p.main.body) Xt g0 s).2.2.2.2.1, (openSeen q loose (importedModules p.main.body) Xt g0 s).2.2.2.2.2.1)) = some (true, bltViewBooted, pinGoodD (drecsOf q), (plainsOf q (looseW q loose)).map fun c => some c.withCmp.plainShape))
    (hd : ∀ w os, (Rn w os).map (fun s => ((openSeen q loose (importedModules p.main.body) Xt g0 s).2.2.2.2.2.2, Yf s)) = some ((plainGoodD q loose, wideGood q, clsGoodW q loose), Ya w)) : LeftO p q loose Xt Yf Ya N g0 := fun w => by
  obtain ⟨⟨h, gs, d, k, os⟩, e0, e'⟩ := Option.map_eq_some_iff.mp (boot_open e hN f w)
  obtain ⟨rfl, rfl, rfl, rfl⟩ : h = boot_heap w.params ∧ gs = Array.mk [] ∧ d = boot_drawn ∧ k = boot_toks := by simpa using e'
  obtain ⟨r, hr, y1⟩ := Option.map_eq_some_iff.mp (hd w os)
  have a1 := ha w os
  have a2 := hb w os
  have a3 := hc w os
  rw [hr] at a1 a2 a3
  obtain ⟨k1, b4⟩ : _ ∧ _ := by simpa only [Prod.mk.injEq] using Option.some.inj a1
  obtain ⟨k2, b1⟩ : _ ∧ _ := by simpa only [Prod.mk.injEq] using Option.some.inj a2
  obtain ⟨t1, b2, b5, b6⟩ : _ ∧ _ ∧ _ ∧ _ := by simpa only [Prod.mk.injEq] using Option.some.inj a3
  obtain ⟨b7, y2⟩ : _ ∧ _ := by simpa only [Prod.mk.injEq] using y1
  have b3 : (openSeen q loose (importedModules p.main.body) Xt g0 r).2.2.1 = true := by
    show (_ && _ && _ && _ && _ && _ && _) = true
    simp only [Bool.and_eq_true] at k2 ⊢
    obtain ⟨⟨⟨⟨⟨c1, c2⟩, c3⟩, c4⟩, c5⟩, c6⟩ := k2
    exact ⟨⟨⟨⟨⟨⟨k1, c1⟩, c2⟩, c3⟩, c4⟩, c5⟩, c6⟩
  have tf : topFrom treeTable p w N ⟨boot_heap w.params, Array.mk [], boot_drawn, boot_toks, os⟩ = some r := by
    unfold topFrom
    dsimp only
    rw [z w, hR w os, hr]
    show (match staticsOk (importedModules p.main.body) (boot_heap w.params) r.heap && namesBound p r.heap && gensDone r && laidKept (boot_heap w.params) r.heap with | true => _ | false => _) = _
    rw [t1]
  unfold openEnds
  rw [e0]
  show Option.map _ (topFrom treeTable p w N _) = _
  rw [tf]
  exact congrArg some (Prod.ext (Prod.ext b1 (Prod.ext b2 (Prod.ext b3 (Prod.ext b4 (Prod.ext b5 (Prod.ext b6 b7)))))) y2)
end Br
end
section
set_option Elab.async false
set_option linter.all false
set_option maxRecDepth 100000
set_option maxHeartbeats 0
namespace Br
open PySem PySem.W PyProof.Rows L2
theorem qa (w : World) (os : OsState) : (Rn w os).map (fun s => (PySem.W.Fast.tw10880121769531294198 s.heap (PySem.W.Fast.tw821141287760084731 vw ["take_new_name"]) ((PySem.W.Fast.tw3399658132070893891 vw).map (·.name)) ((PySem.W.Fast.tw7409074990110511671 vw).map (·.1)) ((PySem.W.Fast.tw13664370479719496447 vw (PySem.W.Fast.tw821141287760084731 vw ["take_new_name"])).map (·.name)), (Tn s).2.2.2.1)) = some (true, true) := by kernel_rfl
end Br
end
section
set_option Elab.async false
set_option linter.all false
set_option maxRecDepth 100000
set_option maxHeartbeats 0
namespace Br
open PySem PySem.W PyProof.Rows L2
theorem qb (w : World) (os : OsState) : (Rn w os).map (fun s => (PySem.W.Fast.tw14722251495701143533 s.heap (importedModules PySem.Challenge.pw_bouncetable_s01_answers.main.body) && s.heap.isNs mainGlobals && s.heap.isNs builtinsNs && PySem.W.Fast.tw10994771534591457954 vw s.heap && (xlAt vw [] s && recOk [] s) && (if true then s.gens.size == 0 else !leftWithCleanup s.gens), (Tn s).1)) = some (true, ⟨(PySem.W.Fast.tw3399658132070893891 vw).map fun d => some d.shape, true, [], true, true, true, 0⟩) := by kernel_rfl
end Br
end
section
set_option Elab.async false
set_option linter.all false
set_option maxRecDepth 100000
set_option maxHeartbeats 0
namespace Br
open PySem PySem.W PyProof.Rows L2
theorem qc (w : World) (os : OsState) : (Rn w os).map (fun s => (staticsOk (importedModules PySem.Challenge.pw_bouncetable_s01_answers.main.body) (boot_heap w.params) s.heap && namesBound PySem.Challenge.pw_bouncetable_s01_answers s.heap && gensDone s && laidKept (boot_heap w.params) s.heap, (Tn s).2.1, (Tn s).2.2.2.2.1, (Tn s).2.2.2.2.2.1)) = some (true, bltViewBooted, pinGoodD (PySem.W.Fast.tw3247288618530077131 vw), (PySem.W.Fast.tw210736558901404530 vw (PySem.W.Fast.tw821141287760084731 vw ["take_new_name"])).map fun c => some c.withCmp.plainShape) := by kernel_rfl
end Br
end
section
set_option Elab.async false
set_option linter.all false
set_option maxRecDepth 100000
set_option maxHeartbeats 0
namespace Br
open PySem PySem.W PyProof.Rows L2
theorem qd (w : World) (os : OsState) : (Rn w os).map (fun s => ((Tn s).2.2.2.2.2.2, Hook.obs HK s)) = some ((plainGoodD vw ["take_new_name"], wideGood vw, clsGoodW vw ["take_new_name"]), Hook.val HK w) := by kernel_rfl
end Br
end
section
set_option Elab.async false
set_option linter.all false
set_option maxRecDepth 100000
set_option maxHeartbeats 0
namespace Br
open PySem PySem.W PyProof.Rows L2
theorem left : LeftO PySem.Challenge.pw_bouncetable_s01_answers vw ["take_new_name"] (fun s => xlAt vw [] s && recOk [] s) (Hook.obs HK) (Hook.val HK) 6664 := by
  refine left_of (Rn := Rn) (by kernel_rfl) (by rfl) (fun s => rfl) (fun w os => ?r) (fun w => by kernel_rfl) ?a ?b ?c ?d
  case r => unfold Rn; rw [PySem.W.Fast.te14082659384304107361, PySem.W.Fast.te14364793385576792824]
  case a => rw [PySem.W.Fast.te4187177175401517315, PySem.W.Fast.te10880121769531294198, PySem.W.Fast.te821141287760084731, PySem.W.Fast.te3399658132070893891, PySem.W.Fast.te7409074990110511671, PySem.W.Fast.te13664370479719496447]; exact qa
  case b => rw [PySem.W.Fast.te4187177175401517315, PySem.W.Fast.te14722251495701143533, PySem.W.Fast.te10994771534591457954, PySem.W.Fast.te3399658132070893891]; exact qb
  case c => rw [PySem.W.Fast.te4187177175401517315, PySem.W.Fast.te3247288618530077131, PySem.W.Fast.te210736558901404530, PySem.W.Fast.te821141287760084731]; exact qc
  case d => rw [PySem.W.Fast.te4187177175401517315]; exact qd
end Br
end
section
set_option Elab.async false
set_option linter.all false
set_option maxRecDepth 100000
namespace L2
open PySem PySem.Spec PyProof.Rows
abbrev Key := Sum Int Str
def keyIs : Key → Value → Bool
  | .inl k, v => Value.isInt k v
  | .inr x, v => Value.isStrOf x v
def keyH (w : World) : Key → Int
  | .inl k => hashInt k
  | .inr x => hashStr w x
theorem keyIs_shape : ∀ {k : Key} {v : Value}, keyIs k v = true → (∃ i t, k = Sum.inl i ∧ v = Value.int i t) ∨ (∃ x t, k = Sum.inr x ∧ v = Value.str x t)
  | .inl i, v, h => by
    obtain ⟨t, e⟩ := Value.isInt_shape (k := i) (v := v) h
    exact .inl ⟨i, t, rfl, e⟩
  | .inr x, v, h => by
    obtain ⟨t, e⟩ := Value.isStrOf_shape (x := x) (v := v) h
    exact .inr ⟨x, t, rfl, e⟩
theorem keyIs_int (i : Int) (t : Tok) : keyIs (.inl i) (.int i t) = true := by simp [keyIs, Value.isInt]
theorem keyIs_str (x : Str) (t : Tok) : keyIs (.inr x) (.str x t) = true := by simp [keyIs, Value.isStrOf]
theorem key_ll (a b : Int) : decide ((Sum.inl a : Key) = Sum.inl b) = (a == b) := by
  by_cases e : a = b
  · subst e; simp
  · have h : ¬ (Sum.inl a : Key) = Sum.inl b := fun q => e (Sum.inl.inj q)
    rw [decide_eq_false h]
    exact (beq_eq_false_iff_ne.mpr e).symm
theorem key_rr (a b : Str) : decide ((Sum.inr a : Key) = Sum.inr b) = decide (a = b) := by
  by_cases e : a = b
  · subst e; simp
  · have h : ¬ (Sum.inr a : Key) = Sum.inr b := fun q => e (Sum.inr.inj q)
    rw [decide_eq_false h, decide_eq_false e]
theorem key_lr (a : Int) (b : Str) : decide ((Sum.inl a : Key) = Sum.inr b) = false := decide_eq_false (fun q => nomatch q)
theorem key_rl (a : Str) (b : Int) : decide ((Sum.inr a : Key) = Sum.inl b) = false := decide_eq_false (fun q => nomatch q)
def mixKind (prog : Program) (w : World) : PySem.KeyKind prog w Key where
  is := keyIs
  hash := keyH w
  inj := fun v a b ha hb => by
    rcases keyIs_shape ha with ⟨i, t, rfl, rfl⟩ | ⟨x, t, rfl, rfl⟩
    · rcases keyIs_shape hb with ⟨j, u, rfl, e⟩ | ⟨y, u, rfl, e⟩
      · injection e with e1 _; rw [e1]
      · exact nomatch e
    · rcases keyIs_shape hb with ⟨j, u, rfl, e⟩ | ⟨y, u, rfl, e⟩
      · exact nomatch e
      · injection e with e1 _; rw [e1]
  byValue := fun k v h => by
    rcases keyIs_shape h with ⟨i, t, rfl, rfl⟩ | ⟨x, t, rfl, rfl⟩ <;> rfl
  pyHash := fun hv h => by
    rcases keyIs_shape hv with ⟨i, t, rfl, rfl⟩ | ⟨x, t, rfl, rfl⟩
    · exact wpAny_pyHash_int h
    · exact wpAny_pyHash_str h
  eqBool := fun hu hv h => by
    rcases keyIs_shape hu with ⟨i, t, rfl, rfl⟩ | ⟨x, t, rfl, rfl⟩
    · rcases keyIs_shape hv with ⟨j, u, rfl, rfl⟩ | ⟨y, u, rfl, rfl⟩
      · rw [key_ll] at h; exact wpAny_eqBool_int h
      · rw [key_lr] at h; exact SeqAt.EqAt.int_str i t y u _ _ _ _ h
    · rcases keyIs_shape hv with ⟨j, u, rfl, rfl⟩ | ⟨y, u, rfl, rfl⟩
      · rw [key_rl] at h; exact SeqAt.EqAt.str_int x t j u _ _ _ _ h
      · rw [key_rr] at h; exact wpAny_eqBool_str h
  «strs» := fun k x t v h => by
    rcases keyIs_shape h with ⟨i, u, rfl, e⟩ | ⟨y, u, rfl, e⟩
    · exact nomatch e
    · injection e with e1 _
      subst e1
      cases v <;> rfl
theorem mixKind_int (prog : Program) (w : World) (i : Int) (t : Tok) : (mixKind prog w).is (.inl i) (.int i t) = true := keyIs_int i t
theorem mixKind_str (prog : Program) (w : World) (x : Str) (t : Tok) : (mixKind prog w).is (.inr x) (.str x t) = true := keyIs_str x t
end L2
namespace L2
open PySem PySem.Spec PyProof.Rows
inductive V where
  | non | bl (b : Bool) | int (i : Int) | str (x : Str) | byt (b : Array UInt8) | flt (b : UInt64) | ref (a : Addr) | ty (n : String)
  deriving DecidableEq
def RelV : V → Value → Prop
  | .non, u => u = Value.none
  | .bl b, u => u = Value.bool b
  | .int i, u => ∃ t, u = Value.int i t
  | .str x, u => ∃ t, u = Value.str x t
  | .byt b, u => ∃ t, u = Value.bytes b t
  | .flt b, u => ∃ t, u = Value.float b t
  | .ref a, u => u = Value.ref a
  | .ty n, u => u = Value.type n
abbrev Vals : List V → List Value → Prop := Paired RelV
theorem Vals.length {xs : List V} {us : List Value} (r : Vals xs us) : xs.length = us.length := Paired.length r
theorem Vals.get : ∀ {xs : List V} {us : List Value} {i : Nat} {x : V}, Vals xs us → xs[i]? = some x → ∃ u, us[i]? = some u ∧ RelV x u
  | _, _, _, _, .nil, e => by simp at e
  | _, _, 0, _, .cons r _, e => by simp at e; subst e; exact ⟨_, rfl, r⟩
  | _, _, i + 1, x, .cons _ t, e => by
    obtain ⟨u, h1, h2⟩ := Vals.get (i := i) (x := x) t (by simpa using e)
    exact ⟨u, by simpa using h1, h2⟩
theorem Vals.append : ∀ {xs ys : List V} {us ws : List Value}, Vals xs us → Vals ys ws → Vals (xs ++ ys) (us ++ ws)
  | _, _, _, _, .nil, s => s
  | _, _, _, _, .cons r t, s => .cons r (Vals.append t s)
theorem Vals.take : ∀ {xs : List V} {us : List Value} (n : Nat), Vals xs us → Vals (xs.take n) (us.take n)
  | _, _, 0, _ => .nil
  | _, _, _ + 1, .nil => .nil
  | _, _, n + 1, .cons r t => .cons r (Vals.take n t)
theorem Vals.drop : ∀ {xs : List V} {us : List Value} (n : Nat), Vals xs us → Vals (xs.drop n) (us.drop n)
  | _, _, 0, r => r
  | _, _, _ + 1, .nil => .nil
  | _, _, n + 1, .cons _ t => Vals.drop n t
def RelO : Option V → Option Value → Prop
  | some v, some u => RelV v u
  | none, none => True
  | _, _ => False
def KV {κ : Type} : List (κ × V) → List (κ × Value) → Prop := Paired fun (p : κ × V) (q : κ × Value) => p.1 = q.1 ∧ RelV p.2 q.2
def kV : Key → V
  | .inl i => .int i
  | .inr x => .str x
inductive HO where
  /-- a list -/
  | lst (xs : List V)
  /-- a tuple (never changes) -/
  | tup (xs : List V)
  /-- a dict whose keys are ints and texts; one whose keys are tuples of ints and texts (the empty one is both) -/
  | dK (kvs : List (Key × V)) | dT (kvs : List (List Key × V))
  /-- a set of ints: its members, its size -/
  | set (S : Int → Bool) (n : Nat)
  /-- an instance of the class at C, its dict at dx, its attributes -/
  | ins (C dx : Addr) (fs : List (Str × V))
  /-- the dict of the instance at x -/
  | own (x : Addr)
  /-- the dict of an exception -/
  | xd (fs : List (Str × V))
  /-- a bound method, f of x -/
  | met (f x : Addr)
  /-- a range object lo, lo + 1, .. below hi -/
  | rng (lo hi : Int)
  /-- a thing that is known to the object (the script; a dict while a loop walks it): read, never written while it is so -/
  | frz (o : Obj) (u : HO)
  /-- a code object's table -/
  | tbl (ps : Array Value)
  /-- any other thing, by what is true of its one object (a def of one's own: SetO a S n := HO.ext fun h => ..) -/
  | ext (φ : Heap → Prop)
abbrev Hp := Addr → Option HO
def upd (H : Hp) (a : Addr) (o : HO) : Hp := fun b => if b = a then some o else H b
theorem upd_same {H : Hp} {a : Addr} {o : HO} : upd H a o a = some o := by unfold upd; rw [if_pos rfl]
theorem upd_ne {H : Hp} {a b : Addr} {o : HO} (h : b ≠ a) : upd H a o b = H b := by unfold upd; rw [if_neg h]
theorem upd_upd {H : Hp} {a : Addr} {o u : HO} : upd (upd H a o) a u = upd H a u := by
  funext b; unfold upd; split <;> rfl
theorem ne_of {H : Hp} {a b : Addr} {o u : HO} (h : H a = some o) (h' : H b = some u) (d : o ≠ u) : a ≠ b := by
  intro e; subst e; rw [h] at h'; exact d (Option.some.inj h')
theorem ne_of_none {H : Hp} {a b : Addr} {o : HO} (h : H a = some o) (h' : H b = none) : a ≠ b := by
  intro e; subst e; rw [h] at h'; cases h'
section
variable (P : Program) (w : World)
def ObjOk (H : Hp) (h : Heap) (a : Addr) : HO → Prop
  | .lst xs => xs.length ≤ sizeLine ∧ ∃ (its : List Value) (n : Nat), Vals xs its ∧ h.get? a = some { cls := .type "list", data := .seq its.toArray n }
  | .tup xs => xs.length ≤ sizeLine ∧ ∃ its : List Value, Vals xs its ∧ IsTup h a its.toArray
  | .dK kvs => kvs.length ≤ sizeLine ∧ (a == sysModules) = false ∧ ∃ vs, KV kvs vs ∧ h.DictOf (mixKind P w) a vs
  | .dT kvs => kvs.length ≤ sizeLine ∧ (a == sysModules) = false ∧ ∃ xs : List (List Key × Addr × Value),
      Paired (fun (p : List Key × V) (q : List Key × Addr × Value) => p.1 = q.1 ∧ H q.2.1 = some (.tup (p.1.map kV)) ∧ RelV p.2 q.2.2) kvs xs ∧
      ∃ o es ep, h.get? a = some o ∧ o.ExactDict ∧ o.data = .dict es ep ∧ es.toList = xs.map (entryOfKey (tupleKind (mixKind P w))) ∧ (xs.map (·.1)).Nodup
  | .set S n => h.SetOf (intKind P w) a S n
  | .ins C dx fs => H dx = some (.own a) ∧ fs.length ≤ 1000 ∧ dx ≠ a ∧ h.get? a = some (PySem.W.instObj C dx) ∧
      ∃ mA, h.Ns1 dx mA ∧ (∀ f, RelO (fs.lookup f) (mA f)) ∧ PySem.Within mA (fs.map (·.1))
  | .own _ => ∃ o, h.get? a = some o
  | .xd fs => ∃ mA, h.Ns1 a mA ∧ ∀ f, RelO (fs.lookup f) (mA f)
  | .rng lo hi => ∃ t u v, h.get? a = some { cls := .type "range", data := .fields #[.int lo t, .int hi u, .int 1 v] }
  | .frz o u => h.get? a = some o ∧ ObjOk H h a u
  | .tbl ps => h.get? a = some { cls := .none, data := .fields ps }
  | .met f x => h.get? a = some (PySem.W.methodObj (.ref f) (.ref x))
  | .ext φ => φ h ∧ (∃ o, h.get? a = some o) ∧ ∀ h1 h2 : Heap, φ h1 → (∀ o, h1.get? a = some o → h2.get? a = some o) → φ h2
def HOk (H : Hp) (h : Heap) : Prop := ∀ a o, H a = some o → ObjOk P w H h a o
end
section
variable {P : Program} {w : World} {H H' : Hp} {h h' : Heap} {a : Addr} {o : HO}
theorem ObjOk.lt (x : ObjOk P w H h a o) : a < h.objs.size := by
  cases o with
  | lst xs => obtain ⟨_, _, _, _, e⟩ := x; exact Heap.lt_size e
  | tup xs => obtain ⟨_, _, _, p⟩ := x; exact p.lt
  | dK kvs => obtain ⟨_, _, _, _, o, _, _, e, _⟩ := x; exact Heap.lt_size e
  | dT kvs => obtain ⟨_, _, _, _, o, _, _, e, _⟩ := x; exact Heap.lt_size e
  | set S n => obtain ⟨o, _, _, _, e, _⟩ := x; exact Heap.lt_size e
  | ins C dx fs => obtain ⟨_, _, _, e, _⟩ := x; exact Heap.lt_size e
  | own y => obtain ⟨_, e⟩ := x; exact Heap.lt_size e
  | xd fs => obtain ⟨_, ⟨_, _, _, e, _⟩, _⟩ := x; exact Heap.lt_size e
  | rng lo hi => obtain ⟨_, _, _, e⟩ := x; exact Heap.lt_size e
  | frz ob u => obtain ⟨e, _⟩ := x; exact Heap.lt_size e
  | tbl ps => exact Heap.lt_size (show h.get? a = some _ from x)
  | met f y => exact Heap.lt_size (show h.get? a = some _ from x)
  | ext φ => obtain ⟨_, ⟨_, e⟩, _⟩ := x; exact Heap.lt_size e
theorem Paired.mapP {α β : Type} {F G : α → β → Prop} : ∀ {l₁ : List α} {l₂ : List β}, Paired F l₁ l₂ → (∀ a b, F a b → G a b) → Paired G l₁ l₂
  | _, _, .nil, _ => .nil
  | _, _, .cons r t, f => .cons (f _ _ r) (Paired.mapP t f)
theorem ObjOk.stay (x : ObjOk P w H h a o) (k : ∀ b u, (b = a ∨ H b = some (.own a)) → h.get? b = some u → h'.get? b = some u)
    (ho : ∀ b, H b = some (.own a) → H' b = some (.own a)) (ht : ∀ b xs, H b = some (.tup xs) → H' b = some (.tup xs)) : ObjOk P w H' h' a o := by
  induction o with
  | lst xs => obtain ⟨z, its, n, r, e⟩ := x; exact ⟨z, its, n, r, k _ _ (.inl rfl) e⟩
  | tup xs => obtain ⟨z, its, r, ob, e, c⟩ := x; exact ⟨z, its, r, ob, k _ _ (.inl rfl) e, c⟩
  | dK kvs => obtain ⟨z, y, vs, r, ob, es, ep, e, c⟩ := x; exact ⟨z, y, vs, r, ob, es, ep, k _ _ (.inl rfl) e, c⟩
  | dT kvs =>
    obtain ⟨z, y, xs, r, ob, es, ep, e, c⟩ := x
    exact ⟨z, y, xs, Paired.mapP r fun p q z => ⟨z.1, ht _ _ z.2.1, z.2.2⟩, ob, es, ep, k _ _ (.inl rfl) e, c⟩
  | set S n => obtain ⟨ob, es, ep, t, e, c⟩ := x; exact ⟨ob, es, ep, t, k _ _ (.inl rfl) e, c⟩
  | ins C dx fs =>
    obtain ⟨d, z, ne, e, mA, ⟨od, es, ep, e2, c⟩, r⟩ := x
    exact ⟨ho _ d, z, ne, k _ _ (.inl rfl) e, mA, ⟨od, es, ep, k _ _ (.inr d) e2, c⟩, r⟩
  | own y => obtain ⟨ob, e⟩ := x; exact ⟨ob, k _ _ (.inl rfl) e⟩
  | xd fs => obtain ⟨mA, ⟨od, es, ep, e, c⟩, r⟩ := x; exact ⟨mA, ⟨od, es, ep, k _ _ (.inl rfl) e, c⟩, r⟩
  | rng lo hi => obtain ⟨t, u, v, e⟩ := x; exact ⟨t, u, v, k _ _ (.inl rfl) e⟩
  | frz ob u ih => obtain ⟨e, q⟩ := x; exact ⟨k _ _ (.inl rfl) e, ih q⟩
  | tbl ps =>
    have e : h.get? a = some { cls := .none, data := .fields ps } := x
    show h'.get? a = some { cls := .none, data := .fields ps }
    exact k a _ (.inl rfl) e
  | met f y =>
    have e : h.get? a = some (PySem.W.methodObj (.ref f) (.ref y)) := x
    show h'.get? a = some (PySem.W.methodObj (.ref f) (.ref y))
    exact k a _ (.inl rfl) e
  | ext φ => obtain ⟨p, ⟨o, e⟩, st⟩ := x; exact ⟨st _ _ p fun o q => k _ _ (.inl rfl) q, ⟨o, k _ _ (.inl rfl) e⟩, st⟩
theorem HOk.lt (x : HOk P w H h) (e : H a = some o) : a < h.objs.size := (x a o e).lt
theorem HOk.fresh (x : HOk P w H h) (e : h.objs.size ≤ a) : H a = none := by
  cases q : H a with
  | none => rfl
  | some u => exact absurd (Nat.lt_of_lt_of_le (x.lt q) e) (Nat.lt_irrefl _)
theorem HOk.kept (x : HOk P w H h) (k : ∀ b u, h.get? b = some u → h'.get? b = some u) : HOk P w H h' := fun a o e =>
  (x a o e).stay (fun b u _ q => k b u q) (fun _ q => q) fun _ _ q => q
theorem HOk.laid (x : HOk P w H h) (k : ∀ b u, h.get? b = some u → h'.get? b = some u) (hp : h.objs.size ≤ a) (new : ObjOk P w (upd H a o) h' a o) : HOk P w (upd H a o) h' := fun b u e => by
  have hn := x.fresh hp
  by_cases hb : b = a
  · subst hb; rw [upd_same] at e; cases e; exact new
  · rw [upd_ne hb] at e
    exact (x b u e).stay (fun c v _ q => k c v q) (fun c q => by rw [upd_ne (ne_of_none q hn)]; exact q) fun c xs q => by rw [upd_ne (ne_of_none q hn)]; exact q
end
def Rd (H : Hp) (a : Addr) (u : HO) : Prop := H a = some u ∨ ∃ o, H a = some (.frz o u)
theorem Rd.ok {P : Program} {w : World} {H : Hp} {h : Heap} {a : Addr} {u : HO} (r : Rd H a u) (x : HOk P w H h) : ObjOk P w H h a u := by
  rcases r with r | ⟨o, r⟩
  · exact x a u r
  · obtain ⟨_, q⟩ := x a _ r
    exact q
def Mut : Option HO → Prop
  | some (.lst _) => True
  | some (.dK _) => True
  | some (.dT _) => True
  | some (.set _ _) => True
  | some (.ins _ _ _) => True
  | some (.ext _) => True
  | _ => False
section
variable {P : Program} {w : World} {H : Hp} {h h' : Heap} {x e : Addr} {o' : HO}
theorem HOk.write (ok : HOk P w H h) (mu : Mut (H x)) (he : e = x ∨ H e = some (.own x)) (k : ∀ b u, b ≠ e → h.get? b = some u → h'.get? b = some u) (heo : ∃ u, h'.get? e = some u)
    (new : ObjOk P w (upd H x o') h' x o') : HOk P w (upd H x o') h' := fun b u q => by
  have nown : ∀ c y, H c = some (.own y) → c ≠ x := fun c y r z => by subst z; rw [r] at mu; exact mu
  have ntup : ∀ c xs, H c = some (.tup xs) → c ≠ x := fun c xs r z => by subst z; rw [r] at mu; exact mu
  by_cases hb : b = x
  · subst hb; rw [upd_same] at q; cases q; exact new
  · rw [upd_ne hb] at q
    by_cases hbe : b = e
    · have q' : H b = some (.own x) := by
        rcases he with z | z
        · exact absurd (hbe.trans z) hb
        · rw [hbe]; exact z
      rw [q] at q'; cases q'
      obtain ⟨v, hv⟩ := heo
      exact ⟨v, by rw [hbe]; exact hv⟩
    · refine (ok b u q).stay (fun c v hc r => k c v ?_ r) (fun c r => by rw [upd_ne (nown c b r)]; exact r) fun c xs r => by rw [upd_ne (ntup c xs r)]; exact r
      rcases hc with rfl | hc
      · exact hbe
      · rintro rfl
        rcases he with z | z
        · exact nown c b hc z
        · rw [hc] at z; cases z; exact hb rfl
end
structure Un (fs ex : List Addr) (H H' : Hp) (h h' : Heap) : Prop where
  keep : ∀ b o, h.get? b = some o → H b = none → b ∉ fs → b ∉ ex → h'.get? b = some o
  slot : ∀ b o, h.get? b = some o → H b = none → b ∈ fs → b ∉ ex → ∃ sl, h'.get? b = some { o with slots := sl }
  free : ∀ b o, h.get? b = some o → H b = none → b ∉ ex → H' b = none
  there : ∀ b o, h.get? b = some o → b ∉ ex → ∃ o', h'.get? b = some o'
  tups : ∀ b xs, H b = some (.tup xs) → H' b = some (.tup xs)
  frzs : ∀ b o u, H b = some (.frz o u) → H' b = some (.frz o u)
  tbls : ∀ b ps, H b = some (.tbl ps) → ∃ more, H' b = some (.tbl (ps ++ more))
section
variable {fs fs' ex ex' : List Addr} {H H1 H2 : Hp} {h h1 h2 h' : Heap} {a x e : Addr} {o : HO}
theorem Un.any (u : Un fs ex H H1 h h1) {b : Addr} {ob : Obj} (q : h.get? b = some ob) (n : H b = none) (hx : b ∉ ex) : ∃ sl, h1.get? b = some { ob with slots := sl } := by
  by_cases hb : b ∈ fs
  · exact u.slot b ob q n hb hx
  · exact ⟨ob.slots, u.keep b ob q n hb hx⟩
theorem Un.kept (k : ∀ b u, h.get? b = some u → h'.get? b = some u) : Un fs ex H H h h' :=
  ⟨fun b ob q _ _ _ => k b ob q, fun b ob q _ _ _ => ⟨ob.slots, k b ob q⟩, fun _ _ _ n _ => n, fun b ob q _ => ⟨ob, k b ob q⟩, fun _ _ q => q, fun _ _ _ q => q, fun _ ps q => ⟨#[], by rw [q]; simp⟩⟩
theorem Un.refl : Un fs ex H H h h := Un.kept fun _ _ q => q
theorem Un.laid (k : ∀ b u, h.get? b = some u → h'.get? b = some u) (hp : h.objs.size ≤ a) (hn : H a = none) : Un fs ex H (upd H a o) h h' where
  keep := fun b u q _ _ _ => k b u q
  slot := fun b u q _ _ _ => ⟨u.slots, k b u q⟩
  free := fun b u q n _ => by rw [upd_ne (Nat.ne_of_lt (Nat.lt_of_lt_of_le (Heap.lt_size q) hp))]; exact n
  there := fun b u q _ => ⟨u, k b u q⟩
  tups := fun b xs q => by rw [upd_ne (ne_of_none q hn)]; exact q
  frzs := fun b u xs q => by rw [upd_ne (ne_of_none q hn)]; exact q
  tbls := fun b ps q => ⟨#[], by rw [upd_ne (ne_of_none q hn), q]; simp⟩
theorem Un.write (mu : Mut (H x)) (he : e = x ∨ H e = some (.own x)) (k : ∀ b u, b ≠ e → h.get? b = some u → h'.get? b = some u) (heo : ∃ u, h'.get? e = some u) : Un fs ex H (upd H x o) h h' := by
  have hx : ∀ b, H b = none → b ≠ x := fun b n z => by subst z; rw [n] at mu; exact mu
  have hb : ∀ b, H b = none → b ≠ e := fun b n z => by
    subst z
    rcases he with r | r
    · exact hx b n r
    · rw [n] at r; cases r
  have hm : ∀ b u, H b = some u → ¬ Mut (some u) → b ≠ x := fun b u q nm z => by subst z; rw [q] at mu; exact nm mu
  refine ⟨fun b u q n _ _ => k b u (hb b n) q, fun b u q n _ _ => ⟨u.slots, k b u (hb b n) q⟩, fun b u q n _ => by rw [upd_ne (hx b n)]; exact n, fun b u q _ => ?_,
    fun b xs q => by rw [upd_ne (hm b _ q fun z => z)]; exact q, fun b u xs q => by rw [upd_ne (hm b _ q fun z => z)]; exact q, fun b ps q => ⟨#[], by rw [upd_ne (hm b _ q fun z => z), q]; simp⟩⟩
  by_cases hbe : b = e
  · subst hbe; exact heo
  · exact ⟨u, k b u hbe q⟩
end
def trk (h : Heap) (H : Hp) : List Addr := (List.range h.objs.size).filter fun a => (H a).isSome
def hidT (h : Heap) (H : Hp) : Heap := PySem.W.hideAll h (trk h H)
theorem hidT_size (h : Heap) (H : Hp) : (hidT h H).objs.size = h.objs.size := PySem.W.hideAll_size _ _
theorem hidT_get {h : Heap} {H : Hp} {b : Addr} {o : Obj} (e : h.get? b = some o) (n : H b = none) : (hidT h H).get? b = some o :=
  PySem.W.hideAll_get _ e fun hm => by
    have q : (H b).isSome = true := (List.mem_filter.mp hm).2
    rw [n] at q; simp at q
theorem of_hidT {h : Heap} {H : Hp} {b : Addr} {o : Obj} (e : (hidT h H).get? b = some o) : h.get? b = some o ∧ H b = none := by
  have e' : h.get? b = some o := PySem.W.of_hideAll (trk h H) e
  refine ⟨e', ?_⟩
  cases q : H b with
  | none => rfl
  | some x =>
    have hm : b ∈ trk h H := List.mem_filter.mpr ⟨List.mem_range.mpr (Heap.lt_size e'), by simp [q]⟩
    have z : (hidT h H).get? b = none := PySem.W.hideAll_none (trk h H) hm
    rw [z] at e; cases e
end L2
namespace L2
open PySem PySem.Spec PyProof.Rows
structure Mod (K : PySem.W.Frag) (mg : Str → Option Value) (base : Heap) : Prop where
  kin : K.In base
  glob : base.Ns mainGlobals mg
  blt : ∃ mb, base.Ns builtinsNs mb ∧ ∀ x : Str, x ≠ "__name__" → mb x = bootBuiltins x
  nolimit : base.NoLimit
structure Cx where
  prog : Program
  w : World
  K : PySem.W.Frag
  mg : Str → Option Value
  base : Heap
  A : Around
  N : List Str
  s_0 : Shared
  H_0 : Hp
  env : Env
  outer : List Env
  stack : List Env
  ex : List Addr
  fn : Str → Bool
  calm : Bool
  pn : List (Addr × Obj)
  xe : Value → Shared → Prop
def frs (l : List Env) : List Addr := l.filterMap (·.frame)
abbrev Cx.fs (X : Cx) : List Addr := frs X.outer
def Vis (sc : Scope) (x : Str) : Prop := sc.names.lookup x = some .local ∨ sc.names.lookup x = some .cell ∨ sc.names.lookup x = some .free
def Loc (sc : Scope) (x : Str) : Prop := sc.names.lookup x = some .local ∨ sc.names.lookup x = some .cell
def Look (env : Env) (h : Heap) (m : Str → Option Value) (x : Str) (u : Value) : Prop :=
  (env.kindOf x = some .local ∧ m x = some u) ∨ ((env.kindOf x = some .cell ∨ env.kindOf x = some .free) ∧ ∃ c, env.cells.lookup x = some c ∧ h.IsCell c (some u))
structure Cx.Ok (X : Cx) : Prop where
  mod : Mod X.K X.mg X.base
  kind : X.env.scope.kind = .function
  glob : X.env.globals = mainGlobals
  blt : X.env.builtins = builtinsNs
  above : X.s_0.heap.objs.size ≤ X.env.locals
  inj : ∀ x y c, X.env.cells.lookup x = some c → X.env.cells.lookup y = some c → x = y
  has : ∀ x, (X.env.kindOf x = some .cell ∨ X.env.kindOf x = some .free) → ∃ c, X.env.cells.lookup x = some c
  cab : ∀ x c, X.fn x = true → X.env.cells.lookup x = some c → X.s_0.heap.objs.size ≤ c
  hd : X.calm = true → X.A.handled = none
  frames : X.A.frames = some X.stack
  stk : X.stack = X.outer ∨ (X.stack = X.env :: X.outer ∧ X.env.frame = some X.env.locals)
  exf : ∀ b ∈ X.ex, b ≠ X.env.locals ∧ ∀ x c, X.env.cells.lookup x = some c → c ≠ b
  bs : ∀ b o, X.base.get? b = some o → X.s_0.heap.get? b = some o ∧ X.H_0 b = none
  bsz : X.base.objs.size ≤ X.s_0.heap.objs.size
  noex : ∀ b o, X.base.get? b = some o → b ∉ X.ex
  exfs : ∀ b ∈ X.ex, b ∉ X.fs
  funs : X.s_0.heap.FunFrames X.base X.outer
  frf : ∀ b ∈ X.fs, X.H_0 b = none
structure Inv (X : Cx) (pins : List (Addr × Obj)) (σ : List (Option V)) (H : Hp) (s : Shared) : Prop where
  ok : X.Ok
  os : s.os = X.s_0.os
  bare : AllBare s.gens
  base : Un X.fs X.ex X.H_0 H X.s_0.heap s.heap
  loc : ∃ m, s.heap.Ns X.env.locals m ∧ ∀ (i : Nat) (x : Str) (v : V), X.N[i]? = some x → σ[i]? = some (some v) → Vis X.env.scope x → ∃ u, RelV v u ∧ Look X.env s.heap m x u
  cell : ∀ x c, X.env.cells.lookup x = some c → ∃ v, s.heap.IsCell c v
  free : H X.env.locals = none
  freeC : ∀ x c, X.env.cells.lookup x = some c → H c = none
  pin : ∀ p ∈ X.pn ++ pins, s.heap.get? p.1 = some p.2 ∧ H p.1 = none ∧ p.1 ≠ X.env.locals ∧ p.1 ∉ X.fs ∧ ∀ v, p.2.data ≠ .cell v
  hok : HOk X.prog X.w H s.heap
  len : σ.length = X.N.length
section
variable {X : Cx} {pins : List (Addr × Obj)} {σ : List (Option V)} {H H' : Hp} {s : Shared} {h' : Heap}
theorem Cx.Ok.nofr (ok : X.Ok) {b : Addr} {o : Obj} (e : X.base.get? b = some o) : b ∉ X.fs := fun hb => by
  have := (ok.funs.mem hb).1
  rw [e] at this; cases this
theorem Inv.bs (I : Inv X pins σ H s) : ∀ b o, X.base.get? b = some o → s.heap.get? b = some o ∧ H b = none := fun b o e =>
  ⟨I.base.keep b o (I.ok.bs b o e).1 (I.ok.bs b o e).2 (I.ok.nofr e) (I.ok.noex b o e), I.base.free b o (I.ok.bs b o e).1 (I.ok.bs b o e).2 (I.ok.noex b o e)⟩
theorem Inv.bk (I : Inv X pins σ H s) : ∀ b o, X.base.get? b = some o → s.heap.get? b = some o := fun b o e => (I.bs b o e).1
theorem Inv.mod (I : Inv X pins σ H s) : Mod X.K X.mg X.base := I.ok.mod
theorem Inv.kIn (I : Inv X pins σ H s) : X.K.In s.heap := I.ok.mod.kin.keeps I.bk
theorem Inv.nolimit (I : Inv X pins σ H s) : s.heap.NoLimit := I.ok.mod.nolimit.keeps I.bk
theorem Inv.fr (I : Inv X pins σ H s) : ∃ m, Fr X.base X.env.locals s.heap m :=
  let ⟨m, hn, _⟩ := I.loc
  ⟨m, hn, I.bk, Nat.le_trans I.ok.bsz I.ok.above⟩
theorem Inv.lt (I : Inv X pins σ H s) : X.env.locals < s.heap.objs.size := let ⟨_, hn, _⟩ := I.loc; hn.lt
theorem Inv.sz (I : Inv X pins σ H s) : X.s_0.heap.objs.size ≤ s.heap.objs.size := Nat.le_trans I.ok.above (Nat.le_of_lt I.lt)
theorem Inv.nofs (I : Inv X pins σ H s) {a : Addr} (h : s.heap.objs.size ≤ a) : a ∉ X.fs := fun hb => by
  obtain ⟨_, o, ho, _⟩ := I.ok.funs.mem hb
  exact absurd (Nat.lt_of_lt_of_le (Heap.lt_size ho) (Nat.le_trans I.sz h)) (Nat.lt_irrefl _)
theorem Inv.cne (I : Inv X pins σ H s) : ∀ x c, X.env.cells.lookup x = some c → c ≠ X.env.locals := fun x c e z => by
  obtain ⟨v, o, ho, hd⟩ := I.cell x c e
  obtain ⟨m, ⟨o', es, ep, ho', hd', _⟩, _⟩ := I.loc
  rw [z, ho'] at ho; cases ho; rw [hd'] at hd; cases hd
theorem Inv.funs (I : Inv X pins σ H s) : s.heap.FunFrames X.base X.outer := by
  have all : ∀ (l : List Env), (∀ b ∈ frs l, b ∈ X.fs) → X.s_0.heap.FunFrames X.base l → s.heap.FunFrames X.base l := by
    intro l
    induction l with
    | nil => intro _ _; trivial
    | cons env r ih =>
      intro hs hl
      obtain ⟨hk, ⟨L, o, hf, hn, ho, hd⟩, hr⟩ := hl
      have hL : L ∈ X.fs := hs L (by unfold frs; rw [List.filterMap_cons, hf]; exact List.mem_cons_self)
      obtain ⟨sl, e⟩ := I.base.slot L o ho (I.ok.frf L hL) hL fun z => I.ok.exfs L z hL
      exact ⟨hk, ⟨L, _, hf, hn, e, hd⟩, ih (fun b hb => hs b (by unfold frs; rw [List.filterMap_cons, hf]; exact List.mem_cons_of_mem _ hb)) hr⟩
  exact all X.outer (fun _ hb => hb) I.ok.funs
theorem Inv.stack (I : Inv X pins σ H s) : s.heap.FunFrames X.base X.stack := by
  rcases I.ok.stk with e | ⟨e, hf⟩
  · rw [e]; exact I.funs
  · rw [e]
    obtain ⟨m, hn, _⟩ := I.loc
    refine .cons (by rw [I.ok.kind]; decide) hf hn ?_ I.funs
    exact Heap.get?_none_of_le (Nat.le_trans I.ok.bsz I.ok.above)
theorem Inv.stkSub (I : Inv X pins σ H s) : ∀ b ∈ frs X.stack, b ∈ X.env.locals :: X.fs := fun b hb => by
  rcases I.ok.stk with e | ⟨e, hf⟩
  · rw [e] at hb; exact List.mem_cons_of_mem _ hb
  · rw [e] at hb
    unfold frs at hb
    rw [List.filterMap_cons, hf] at hb
    exact hb
theorem Inv.stkFree (I : Inv X pins σ H s) : ∀ b ∈ frs X.stack, H b = none := fun b hb => by
  rcases List.mem_cons.mp (I.stkSub b hb) with e | hb
  · rw [e]; exact I.free
  · obtain ⟨_, o, ho, _⟩ := I.ok.funs.mem hb
    exact I.base.free b o ho (I.ok.frf b hb) fun z => I.ok.exfs b z hb
theorem Inv.step {g' : Array GenState} {t' : Nat} {d' : Drawn} {ch : List Addr} (I : Inv X pins σ H s)
    (hch : ∀ b ∈ ch, (b ∈ X.ex ∨ X.s_0.heap.objs.size ≤ b) ∧ b ≠ X.env.locals ∧ (∀ x c, X.env.cells.lookup x = some c → c ≠ b) ∧ ∀ p ∈ X.pn ++ pins, p.1 ≠ b)
    (keep : ∀ b o, b ≠ X.env.locals → b ∉ X.fs → b ∉ ch → s.heap.get? b = some o → H b = none → h'.get? b = some o)
    (slot : ∀ b o, b ≠ X.env.locals → b ∈ X.fs → b ∉ ch → s.heap.get? b = some o → H b = none → ∃ sl, h'.get? b = some { o with slots := sl }) (free : ∀ b o, b ∉ ch → s.heap.get? b = some o → H b = none → H' b = none)
    (there : ∀ b o, b ∉ ch → s.heap.get? b = some o → ∃ o', h'.get? b = some o')
    (tups : ∀ b xs, H b = some (.tup xs) → H' b = some (.tup xs)) (frzs : ∀ b o u, H b = some (.frz o u) → H' b = some (.frz o u)) (tbls : ∀ b ps, H b = some (.tbl ps) → ∃ more, H' b = some (.tbl (ps ++ more)))
    (ns : ∀ m, s.heap.Ns X.env.locals m → h'.Ns X.env.locals m) (hok : HOk X.prog X.w H' h') (hg : AllBare g') :
    Inv X pins σ H' { s with heap := h', gens := g', drawn := d', toks := t' } := by
  have neL : ∀ b o, X.s_0.heap.get? b = some o → b ≠ X.env.locals := fun b o e => Nat.ne_of_lt (Nat.lt_of_lt_of_le (Heap.lt_size e) I.ok.above)
  have neC : ∀ b o, X.s_0.heap.get? b = some o → b ∉ X.ex → b ∉ ch := fun b o e hx hb => by
    rcases (hch b hb).1 with z | z
    · exact hx z
    · exact absurd (Nat.lt_of_lt_of_le (Heap.lt_size e) z) (Nat.lt_irrefl _)
  have cellK : ∀ x c, X.env.cells.lookup x = some c → ∀ v, s.heap.IsCell c v → h'.IsCell c v := fun x c e v ⟨o, ho, hd⟩ => by
    have nch : c ∉ ch := fun z => (hch c z).2.2.1 x c e rfl
    by_cases hc : c ∈ X.fs
    · obtain ⟨sl, q⟩ := slot c o (I.cne x c e) hc nch ho (I.freeC x c e)
      exact ⟨_, q, hd⟩
    · exact ⟨o, keep c o (I.cne x c e) hc nch ho (I.freeC x c e), hd⟩
  refine ⟨I.ok, I.os, hg, ⟨fun b o e n hb hx => ?_, fun b o e n hb hx => ?_, fun b o e n hx => ?_, fun b o e hx => ?_, fun b xs e => tups b xs (I.base.tups b xs e), fun b o xs e => frzs b o xs (I.base.frzs b o xs e), fun b ps e => ?_⟩, ?_, fun x c e => ?_, ?_, fun x c e => ?_, fun p hp => ?_, hok, I.len⟩
  · exact keep b o (neL b o e) hb (neC b o e hx) (I.base.keep b o e n hb hx) (I.base.free b o e n hx)
  · obtain ⟨sl, e1⟩ := I.base.slot b o e n hb hx
    obtain ⟨sl', e2⟩ := slot b _ (neL b o e) hb (neC b o e hx) e1 (I.base.free b o e n hx)
    exact ⟨sl', e2⟩
  · obtain ⟨o', e1⟩ := I.base.there b o e hx
    exact free b o' (neC b o e hx) e1 (I.base.free b o e n hx)
  · obtain ⟨o', e1⟩ := I.base.there b o e hx
    exact there b o' (neC b o e hx) e1
  · obtain ⟨m1, e1⟩ := I.base.tbls b ps e
    obtain ⟨m2, e2⟩ := tbls b _ e1
    exact ⟨m1 ++ m2, by rw [e2, Array.append_assoc]⟩
  · obtain ⟨m, hn, hl⟩ := I.loc
    refine ⟨m, ns m hn, fun i x v e1 e2 e3 => ?_⟩
    obtain ⟨u, r, l⟩ := hl i x v e1 e2 e3
    refine ⟨u, r, ?_⟩
    rcases l with l | ⟨k, c, e, z⟩
    · exact .inl l
    · exact .inr ⟨k, c, e, cellK x c e _ z⟩
  · obtain ⟨v, z⟩ := I.cell x c e
    exact ⟨v, cellK x c e v z⟩
  · obtain ⟨m, ⟨o, _, _, ho, _⟩, _⟩ := I.loc
    exact free _ o (fun z => (hch _ z).2.1 rfl) ho I.free
  · obtain ⟨v, o, ho, hd⟩ := I.cell x c e
    exact free c o (fun z => (hch c z).2.2.1 x c e rfl) ho (I.freeC x c e)
  · obtain ⟨e, n, ne, nf, d⟩ := I.pin p hp
    have nch : p.1 ∉ ch := fun z => (hch p.1 z).2.2.2 p hp rfl
    exact ⟨keep p.1 p.2 ne nf nch e n, free p.1 p.2 nch e n, ne, nf, d⟩
theorem Inv.un {t' : Nat} (I : Inv X pins σ H s) (u : Un X.fs [] H H' s.heap h') (hok : HOk X.prog X.w H' h') : Inv X pins σ H' { s with heap := h', toks := t' } := by
  obtain ⟨m, ⟨o, es, ep, ho, r⟩, _⟩ := id I.loc
  obtain ⟨sl, hL⟩ := u.any ho I.free (by simp)
  exact I.step (g' := s.gens) (d' := s.drawn) (ch := []) (fun _ z => nomatch z) (fun b o _ hb _ e n => u.keep b o e n hb (by simp)) (fun b o _ hb _ e n => u.slot b o e n hb (by simp)) (fun b o _ e n => u.free b o e n (by simp)) (fun b o _ e => u.there b o e (by simp)) u.tups u.frzs u.tbls (fun m' hm => by
    obtain ⟨o', es', ep', ho', r'⟩ := hm
    rw [ho] at ho'; cases ho'
    exact ⟨_, es', ep', hL, r'⟩) hok I.bare
theorem Inv.call {g' : Array GenState} {t' : Nat} {d' : Drawn} {ch : List Addr} (I : Inv X pins σ H s) (u : Un (frs X.stack) ch H H' s.heap h') (hok : HOk X.prog X.w H' h') (hg : AllBare g')
    (hch : ∀ b ∈ ch, (b ∈ X.ex ∨ X.s_0.heap.objs.size ≤ b) ∧ b ≠ X.env.locals ∧ (∀ x c, X.env.cells.lookup x = some c → c ≠ b) ∧ ∀ p ∈ X.pn ++ pins, p.1 ≠ b) :
    Inv X pins σ H' { s with heap := h', gens := g', drawn := d', toks := t' } := by
  obtain ⟨m, ⟨o, es, ep, ho, r⟩, _⟩ := id I.loc
  obtain ⟨sl, hL⟩ := u.any ho I.free fun z => (hch _ z).2.1 rfl
  exact I.step (ch := ch) hch (fun b o hL hb hc e n => u.keep b o e n (fun z => (List.mem_cons.mp (I.stkSub b z)).elim hL hb) hc) (fun b o _ _ hc e n => u.any e n hc) (fun b o hc e n => u.free b o e n hc) (fun b o hc e => u.there b o e hc) u.tups u.frzs u.tbls (fun m' hm => by
    obtain ⟨o', es', ep', ho', r'⟩ := hm
    rw [ho] at ho'; cases ho'
    exact ⟨_, es', ep', hL, r'⟩) hok hg
theorem Inv.turned {t' : Nat} {it : Addr} (I : Inv X pins σ H s) (k : ∀ b o, b ≠ it → s.heap.get? b = some o → h'.get? b = some o) (hn : H it = none) (hL : it ≠ X.env.locals)
    (h1 : it ∈ X.ex ∨ X.s_0.heap.objs.size ≤ it) (h2 : ∀ x c, X.env.cells.lookup x = some c → c ≠ it) (h3 : ∀ p ∈ X.pn ++ pins, p.1 ≠ it) : Inv X pins σ H { s with heap := h', toks := t' } := by
  have nit : ∀ b u, H b = some u → b ≠ it := fun b u e z => by rw [z, hn] at e; cases e
  refine I.step (g' := s.gens) (d' := s.drawn) (ch := [it]) (fun b hb => ?_) (fun b o _ _ hc e _ => k b o (fun z => hc (by simp [z])) e) (fun b o _ _ hc e _ => ⟨o.slots, k b o (fun z => hc (by simp [z])) e⟩) (fun _ _ _ _ n => n)
    (fun b o hc e => ⟨o, k b o (fun z => hc (by simp [z])) e⟩) (fun _ _ e => e) (fun _ _ _ e => e) (fun b ps e => ⟨#[], by rw [e]; simp⟩) (fun m hm => ?_) (fun b u e => ?_) I.bare
  · have e : b = it := by simpa using hb
    subst e
    exact ⟨h1, hL, h2, h3⟩
  · obtain ⟨o, es, ep, ho, r⟩ := hm
    exact ⟨o, es, ep, k _ o (Ne.symm hL) ho, r⟩
  · refine (I.hok b u e).stay (fun c v hc q => k c v ?_ q) (fun _ q => q) fun _ _ q => q
    rcases hc with z | z
    · rw [z]; exact nit b u e
    · exact nit c _ z
theorem Inv.tok (I : Inv X pins σ H s) (t : Nat) : Inv X pins σ H { s with toks := t } := I.un (h' := s.heap) (t' := t) Un.refl I.hok
theorem Inv.kept {t' : Nat} (I : Inv X pins σ H s) (k : ∀ b u, s.heap.get? b = some u → h'.get? b = some u) : Inv X pins σ H { s with heap := h', toks := t' } := I.un (Un.kept k) (I.hok.kept k)
theorem Inv.laid {a : Addr} {o : HO} {t' : Nat} (I : Inv X pins σ H s) (k : ∀ b u, s.heap.get? b = some u → h'.get? b = some u) (hp : s.heap.objs.size ≤ a) (new : ObjOk X.prog X.w (upd H a o) h' a o) :
    Inv X pins σ (upd H a o) { s with heap := h', toks := t' } := I.un (Un.laid k hp (I.hok.fresh hp)) (I.hok.laid k hp new)
theorem Inv.write {x e : Addr} {o : HO} {t' : Nat} (I : Inv X pins σ H s) (mu : Mut (H x)) (he : e = x ∨ H e = some (.own x)) (k : ∀ b u, b ≠ e → s.heap.get? b = some u → h'.get? b = some u) (heo : ∃ u, h'.get? e = some u)
    (new : ObjOk X.prog X.w (upd H x o) h' x o) : Inv X pins σ (upd H x o) { s with heap := h', toks := t' } := I.un (Un.write mu he k heo) (I.hok.write mu he k heo new)
theorem Inv.weak {σ' : List (Option V)} (I : Inv X pins σ H s) (hl : σ'.length = σ.length) (w : ∀ (i : Nat) v, σ'[i]? = some (some v) → σ[i]? = some (some v)) : Inv X pins σ' H s :=
  ⟨I.ok, I.os, I.bare, I.base, let ⟨m, hn, hl'⟩ := I.loc; ⟨m, hn, fun i x v e1 e2 e3 => hl' i x v e1 (w i v e2) e3⟩, I.cell, I.free, I.freeC, I.pin, I.hok, hl.trans I.len⟩
theorem Inv.pins_of {pins' : List (Addr × Obj)} (I : Inv X pins σ H s) (h : ∀ p ∈ pins', s.heap.get? p.1 = some p.2 ∧ H p.1 = none ∧ p.1 ≠ X.env.locals ∧ p.1 ∉ X.fs ∧ ∀ v, p.2.data ≠ .cell v) : Inv X pins' σ H s :=
  ⟨I.ok, I.os, I.bare, I.base, I.loc, I.cell, I.free, I.freeC, fun p hp => (List.mem_append.mp hp).elim (fun z => I.pin p (List.mem_append_left _ z)) (h p), I.hok, I.len⟩
theorem nodup_ix {N : List Str} (hN : N.Nodup) {i j : Nat} {x : Str} (a : N[i]? = some x) (b : N[j]? = some x) : i = j := by
  obtain ⟨h1, e1⟩ := List.getElem?_eq_some_iff.mp a
  obtain ⟨h2, e2⟩ := List.getElem?_eq_some_iff.mp b
  exact (List.getElem_inj hN).mp (e1.trans e2.symm)
theorem store_ok2 {M : Model} {A : Around} {E : Value → Shared → Prop} {i : Nat} {x : Str} {v : V} {u : Value} {Q : Unit → Shared → Prop} (I : Inv X pins σ H s) (hN : X.N.Nodup) (hi : X.N[i]? = some x) (hx : Loc X.env.scope x) (r : RelV v u)
    (h : ∀ s', Inv X pins (σ.set i (some v)) H s' → (∃ a, Heap.SameBut a s.heap s'.heap ∧ (a = X.env.locals ∨ X.env.cells.lookup x = some a)) → Q () s') (hf : X.fn x = true ∨ X.env.scope.names.lookup x = some .local := by first | exact .inl rfl | exact .inr rfl | assumption) : wpAny M A (storeName X.env x u) Q E s := by
  obtain ⟨m, hn, hl⟩ := id I.loc
  have hcls : (X.env.scope.kind == .class || (X.env.scope.kind == .module && X.env.locals != X.env.globals)) = false := by rw [I.ok.kind]; rfl
  have hiσ : i < σ.length := by rw [I.len]; exact (List.getElem?_eq_some_iff.mp hi).1
  have cne := I.cne
  have tracked : ∀ {a : Addr} {h' : Heap}, (∃ o, s.heap.get? a = some o ∧ H a = none) → Heap.SameBut a s.heap h' → HOk X.prog X.w H h' := fun {a h'} ha hs b ob e => by
    obtain ⟨_, _, hfree⟩ := ha
    refine (I.hok b ob e).stay (fun c w' hc q => (hs.2 c ?_).trans q) (fun _ q => q) fun _ _ q => q
    rintro rfl
    rcases hc with rfl | hc
    · rw [hfree] at e; cases e
    · rw [hfree] at hc; cases hc
  rcases hx with hk | hk
  · refine wpAny_storeName_local hk hn (fun h' hn' hs => ?_) hcls
    obtain ⟨oL, _, _, hoL, _⟩ := id hn
    refine h _ ⟨I.ok, I.os, I.bare, ⟨fun b o e n hb hx => ?_, fun b o e n hb hx => ?_, I.base.free, fun b o e hx => ?_, I.base.tups, I.base.frzs, I.base.tbls⟩, ⟨_, hn', fun j y v' e1 e2 e3 => ?_⟩, fun y c e => ?_, I.free, I.freeC, fun p hp => ?_, tracked ⟨oL, hoL, I.free⟩ hs, by simpa using I.len⟩ ⟨_, hs, .inl rfl⟩
    · exact (hs.2 b (Nat.ne_of_lt (Nat.lt_of_lt_of_le (Heap.lt_size e) I.ok.above))).trans (I.base.keep b o e n hb hx)
    · obtain ⟨sl, e1⟩ := I.base.slot b o e n hb hx
      exact ⟨sl, (hs.2 b (Nat.ne_of_lt (Nat.lt_of_lt_of_le (Heap.lt_size e) I.ok.above))).trans e1⟩
    · obtain ⟨o', e1⟩ := I.base.there b o e hx
      exact ⟨o', (hs.2 b (Nat.ne_of_lt (Nat.lt_of_lt_of_le (Heap.lt_size e) I.ok.above))).trans e1⟩
    · by_cases hj : j = i
      · subst hj
        rw [hi] at e1; cases e1
        rw [List.getElem?_set_self hiσ] at e2
        cases e2
        exact ⟨u, r, .inl ⟨hk, by simp⟩⟩
      · rw [List.getElem?_set_ne (Ne.symm hj)] at e2
        obtain ⟨u', r', q⟩ := hl j y v' e1 e2 e3
        refine ⟨u', r', ?_⟩
        rcases q with ⟨k, e⟩ | ⟨k, c, e, z⟩
        · refine .inl ⟨k, ?_⟩
          have : y ≠ x := fun e => hj (nodup_ix hN e1 (e ▸ hi))
          simp [this, e]
        · exact .inr ⟨k, c, e, z.sameBut hs (cne y c e)⟩
    · obtain ⟨w', z⟩ := I.cell y c e
      exact ⟨w', z.sameBut hs (cne y c e)⟩
    · obtain ⟨e, n, ne, nf, d⟩ := I.pin p hp
      exact ⟨(hs.2 p.1 ne).trans e, n, ne, nf, d⟩
  · have hfn : X.fn x = true := by
      rcases hf with z | z
      · exact z
      · rw [z] at hk; cases hk
    obtain ⟨c, hc⟩ := I.ok.has x (.inl hk)
    obtain ⟨w', z⟩ := I.cell x c hc
    refine wpAny_storeName_cell I.ok.kind hk hc z (fun h' hc' hs => ?_)
    obtain ⟨oc, hoc, hocd⟩ := id z
    refine h { s with heap := h' } ⟨I.ok, I.os, I.bare, ⟨fun b o e n hb hx => ?_, fun b o e n hb hx => ?_, I.base.free, fun b o e hx => ?_, I.base.tups, I.base.frzs, I.base.tbls⟩, ⟨m, hn.sameBut hs (Ne.symm (cne x c hc)), fun j y v' e1 e2 e3 => ?_⟩, fun y c' e => ?_, I.free, I.freeC, fun p hp => ?_, tracked ⟨oc, hoc, I.freeC x c hc⟩ hs, by simpa using I.len⟩ ⟨c, hs, .inr hc⟩
    · exact (hs.2 b (Nat.ne_of_lt (Nat.lt_of_lt_of_le (Heap.lt_size e) (I.ok.cab x c hfn hc)))).trans (I.base.keep b o e n hb hx)
    · obtain ⟨sl, e1⟩ := I.base.slot b o e n hb hx
      exact ⟨sl, (hs.2 b (Nat.ne_of_lt (Nat.lt_of_lt_of_le (Heap.lt_size e) (I.ok.cab x c hfn hc)))).trans e1⟩
    · obtain ⟨o', e1⟩ := I.base.there b o e hx
      exact ⟨o', (hs.2 b (Nat.ne_of_lt (Nat.lt_of_lt_of_le (Heap.lt_size e) (I.ok.cab x c hfn hc)))).trans e1⟩
    · by_cases hj : j = i
      · subst hj
        rw [hi] at e1; cases e1
        rw [List.getElem?_set_self hiσ] at e2
        cases e2
        exact ⟨u, r, .inr ⟨.inl hk, c, hc, hc'⟩⟩
      · rw [List.getElem?_set_ne (Ne.symm hj)] at e2
        obtain ⟨u', r', q⟩ := hl j y v' e1 e2 e3
        refine ⟨u', r', ?_⟩
        rcases q with q | ⟨k, c', e, z'⟩
        · exact .inl q
        · refine .inr ⟨k, c', e, z'.sameBut hs ?_⟩
          rintro rfl
          exact hj (nodup_ix hN e1 (I.ok.inj _ _ _ e hc ▸ hi))
    · by_cases hcc : c' = c
      · subst hcc; exact ⟨_, hc'⟩
      · obtain ⟨w2, z2⟩ := I.cell y c' e
        exact ⟨w2, z2.sameBut hs hcc⟩
    · obtain ⟨e, n, ne, nf, d⟩ := I.pin p hp
      refine ⟨(hs.2 p.1 ?_).trans e, n, ne, nf, d⟩
      intro q
      rw [q, hoc] at e
      have q' : oc = p.2 := Option.some.inj e
      exact d w' (by rw [← q']; exact hocd)
theorem store_ok {M : Model} {A : Around} {E : Value → Shared → Prop} {i : Nat} {x : Str} {v : V} {u : Value} {Q : Unit → Shared → Prop} (I : Inv X pins σ H s) (hN : X.N.Nodup) (hi : X.N[i]? = some x) (hx : Loc X.env.scope x) (r : RelV v u)
    (h : ∀ s', Inv X pins (σ.set i (some v)) H s' → Q () s') (hf : X.fn x = true ∨ X.env.scope.names.lookup x = some .local := by first | exact .inl rfl | exact .inr rfl | assumption) : wpAny M A (storeName X.env x u) Q E s :=
  store_ok2 I hN hi hx r (fun s' I' _ => h s' I') hf
theorem Inv.call' {s' : Shared} {ch : List Addr} (I : Inv X pins σ H s) (ho : s'.os = s.os) (u : Un (frs X.stack) ch H H' s.heap s'.heap) (hok : HOk X.prog X.w H' s'.heap) (hg : AllBare s'.gens)
    (hch : ∀ b ∈ ch, (b ∈ X.ex ∨ X.s_0.heap.objs.size ≤ b) ∧ b ≠ X.env.locals ∧ (∀ x c, X.env.cells.lookup x = some c → c ≠ b) ∧ ∀ p ∈ X.pn ++ pins, p.1 ≠ b) : Inv X pins σ H' s' := by
  obtain ⟨h', g', d', t', o'⟩ := s'
  have e : o' = s.os := ho
  subst e
  exact I.call (g' := g') (t' := t') (d' := d') u hok hg hch
end
abbrev XK := Value → Option Addr → Hp → Prop
abbrev St := List (Option V)
abbrev VK := V → Hp → Prop
abbrev TE := St → Hp → VK → Prop
abbrev TT := St → Hp → (Bool → Hp → Prop) → Prop
abbrev TA := St → Hp → (List V → Hp → Prop) → Prop
structure Ends where
  nx : St → Hp → Prop
  rt : VK
  bk : St → Hp → Prop := fun _ _ => False
  ct : St → Hp → Prop := fun _ _ => False
abbrev TS := Ends → St → Hp → Prop
def EP (X : Cx) (pins : List (Addr × Obj)) (σ : St) (Q : VK) (u : Value) (s' : Shared) : Prop := ∃ v H', Inv X pins σ H' s' ∧ RelV v u ∧ Q v H'
def TP (X : Cx) (pins : List (Addr × Obj)) (σ : St) (Q : Bool → Hp → Prop) (b : Bool) (s' : Shared) : Prop := ∃ H', Inv X pins σ H' s' ∧ Q b H'
def AP (X : Cx) (pins : List (Addr × Obj)) (σ : St) (Q : List V → Hp → Prop) (us : List Value) (s' : Shared) : Prop := ∃ vs H', Inv X pins σ H' s' ∧ Vals vs us ∧ Q vs H'
def SP (X : Cx) (pins : List (Addr × Obj)) (D : Ends) (f : Flow) (s' : Shared) : Prop :=
  match f with
  | .next => ∃ σ' H', Inv X pins σ' H' s' ∧ D.nx σ' H'
  | .brk => ∃ σ' H', Inv X pins σ' H' s' ∧ D.bk σ' H'
  | .cont => ∃ σ' H', Inv X pins σ' H' s' ∧ D.ct σ' H'
  | .ret u => ∃ v σ' H', Inv X pins σ' H' s' ∧ RelV v u ∧ D.rt v H'
def PE (X : Cx) (e : Expr) (t : TE) : Prop :=
  ∀ (pins : List (Addr × Obj)) (s : Shared) (σ : St) (H : Hp) (Q : VK), Inv X pins σ H s → t σ H Q → wpAny (model X.prog X.w) X.A (eval e X.env) (EP X pins σ Q) X.xe s
def PT (X : Cx) (e : Expr) (t : TT) : Prop :=
  ∀ (pins : List (Addr × Obj)) (s : Shared) (σ : St) (H : Hp) (Q : Bool → Hp → Prop), Inv X pins σ H s → t σ H Q → wpAny (model X.prog X.w) X.A (isTrue e X.env (eval e X.env)) (TP X pins σ Q) X.xe s
def PW (X : Cx) (e : Expr) (t : TT) : Prop :=
  ∀ (whole : Sem Value) (pins : List (Addr × Obj)) (s : Shared) (σ : St) (H : Hp) (Q : Bool → Hp → Prop), Inv X pins σ H s → t σ H Q → wpAny (model X.prog X.w) X.A (isTrue e X.env whole) (TP X pins σ Q) X.xe s
theorem PW.pt {X : Cx} {e : Expr} {t : TT} (h : PW X e t) : PT X e t := h _
def PA (X : Cx) (es : List Expr) (t : TA) : Prop :=
  ∀ (pos : Pos) (pins : List (Addr × Obj)) (s : Shared) (σ : St) (H : Hp) (Q : List V → Hp → Prop), Inv X pins σ H s → t σ H Q → wpAny (model X.prog X.w) X.A (spliced (backTo pos (starEach es X.env))) (AP X pins σ Q) X.xe s
def PS (X : Cx) (st : Stmt) (t : TS) : Prop :=
  ∀ (pins : List (Addr × Obj)) (s : Shared) (σ : St) (H : Hp) (D : Ends), Inv X pins σ H s → t D σ H → wpAny (model X.prog X.w) X.A (exec st X.env) (SP X pins D) X.xe s
def PSs (X : Cx) (st : List Stmt) (t : TS) : Prop :=
  ∀ (pins : List (Addr × Obj)) (s : Shared) (σ : St) (H : Hp) (D : Ends), Inv X pins σ H s → t D σ H → wpAny (model X.prog X.w) X.A (execs st X.env) (SP X pins D) X.xe s
theorem thn {α : Type} {t : Sem α} {Q Q' : α → Shared → Prop} {M : Model} {A : Around} {E : Value → Shared → Prop} {s : Shared} (h : wpAny M A t Q E s) (hQ : ∀ a s, Q a s → Q' a s) : wpAny M A t Q' E s := wpAny_mono h hQ fun _ _ x => x
end L2
namespace L2
open PySem PySem.Spec PyProof.Rows
section
variable {X : Cx}
theorem bin {a b : Expr} {ta tb : TE} (ha : PE X a ta) (hb : PE X b tb) {pins : List (Addr × Obj)} {s : Shared} {σ : St} {H : Hp} {R : V → V → Hp → Prop} (I : Inv X pins σ H s) (h : ta σ H fun x H1 => tb σ H1 fun y H2 => R x y H2)
    {α : Type} {Q : α → Shared → Prop} {f : Value → Value → Sem α}
    (hf : ∀ v u s2 x y H2, Inv X pins σ H2 s2 → RelV x v → RelV y u → R x y H2 → wpAny (model X.prog X.w) X.A (f v u) Q X.xe s2) :
    wpAny (model X.prog X.w) X.A (eval a X.env) (fun v s₁ => wpAny (model X.prog X.w) X.A (eval b X.env) (fun u s₂ => wpAny (model X.prog X.w) X.A (f v u) Q X.xe s₂) X.xe s₁) X.xe s := by
  refine thn (ha pins s σ H _ I h) fun v s1 ⟨x, H1, I1, r1, q1⟩ => ?_
  refine thn (hb pins s1 σ H1 _ I1 q1) fun u s2 ⟨y, H2, I2, r2, q2⟩ => ?_
  exact hf v u s2 x y H2 I2 r1 r2 q2
def tVar (i : Nat) : TE := fun σ H Q => ∃ v, σ[i]? = some (some v) ∧ Q v H
def tC (v : V) : TE := fun _ H Q => Q v H
theorem pe_var {i : Nat} {x : Str} {pos : Pos} (hN : X.N[i]? = some x) (hv : Vis X.env.scope x) (hd : (x == ("__debug__" : Str)) = false := by decide) (hcd : (x == ("__classdict__" : Str)) = false := by decide) : PE X (.Name x pos) (tVar i) := by
  intro pins s σ H Q I h
  obtain ⟨v, e, h⟩ := h
  obtain ⟨m, hn, hl⟩ := I.loc
  obtain ⟨u, r, l⟩ := hl i x v hN e hv
  have fin : EP X pins σ Q u s := ⟨v, H, I, r, h⟩
  rcases l with ⟨hk, hm⟩ | ⟨hk, c, hc, hcell⟩
  · exact wpAny_Name (wpAny_loadName_local I.ok.kind hk hn hm fin) hd
  · rcases hk with hk | hk
    · exact wpAny_Name (wpAny_loadName_cell I.ok.kind hk hc hcell fin) hd
    · exact wpAny_Name (wpAny_loadName_free I.ok.kind hk hc hcell fin hcd) hd
theorem pe_int {i j pos} : PE X (.Constant (.int i) j pos) (tC (.int i)) := fun _ _ _ H _ I h => wpAny_Constant_int ⟨.int i, H, I.tok _, ⟨_, rfl⟩, h⟩
theorem pe_bl {b j pos} : PE X (.Constant (.bool b) j pos) (tC (.bl b)) := fun _ _ _ H _ I h => Constant_bool ⟨.bl b, H, I, rfl, h⟩
theorem pe_non {j pos} : PE X (.Constant .none j pos) (tC .non) := fun _ _ _ H _ I h => Constant_none ⟨.non, H, I, rfl, h⟩
theorem pe_str {x j pos} : PE X (.Constant (.str x) j pos) (tC (.str x)) := fun _ _ _ H _ I h => Calls.Constant_str ⟨.str x, H, I.tok _, ⟨_, rfl⟩, h⟩
def Gl (X : Cx) (x : Str) : Prop := X.env.kindOf x = some .globalImplicit
theorem ld_glob {E : Value → Shared → Prop} {pins : List (Addr × Obj)} {s : Shared} {σ : St} {H : Hp} {x : Str} {u : Value} {pos : Pos} {Q : Value → Shared → Prop} (I : Inv X pins σ H s) (hg : Gl X x) (hm : X.mg x = some u) (h : Q u s)
    (hd : (x == ("__debug__" : Str)) = false := by decide) : wpAny (model X.prog X.w) X.A (eval (.Name x pos) X.env) Q E s :=
  Calls.Name_function_global I.ok.kind hg (Calls.loadGlobal_global (by rw [I.ok.glob]; exact I.mod.glob.keeps I.bk) hm h) hd
theorem ld_blt {E : Value → Shared → Prop} {pins : List (Addr × Obj)} {s : Shared} {σ : St} {H : Hp} {x : Str} {u : Value} {pos : Pos} {Q : Value → Shared → Prop} (I : Inv X pins σ H s) (hg : Gl X x) (hm : X.mg x = none) (hv : bootBuiltins x = some u) (h : Q u s)
    (hn : x ≠ "__name__" := by decide) (hd : (x == ("__debug__" : Str)) = false := by decide) : wpAny (model X.prog X.w) X.A (eval (.Name x pos) X.env) Q E s := by
  obtain ⟨mb, h1, h2⟩ := I.mod.blt
  exact Calls.Name_function_global I.ok.kind hg (Calls.loadGlobal_builtin (by rw [I.ok.glob]; exact I.mod.glob.keeps I.bk) hm (by rw [I.ok.blt]; exact h1.keeps I.bk) ((h2 x hn).trans hv) h) hd
theorem pe_glob {x : Str} {v : V} {u : Value} {pos : Pos} (hg : Gl X x) (hm : X.mg x = some u) (r : RelV v u) (hd : (x == ("__debug__" : Str)) = false := by decide) : PE X (.Name x pos) (tC v) :=
  fun _ _ _ H _ I h => ld_glob I hg hm ⟨v, H, I, r, h⟩ hd
variable {a b : Expr} {ta tb : TE} {pos : Pos}
def PC (X : Cx) (op : CmpOp) (a b : Expr) (t : TE) : Prop :=
  ∀ (pins : List (Addr × Obj)) (s : Shared) (σ : St) (H : Hp) (Q : VK), Inv X pins σ H s → t σ H Q →
    wpAny (model X.prog X.w) X.A (eval a X.env) (fun v s₁ => wpAny (model X.prog X.w) X.A (eval b X.env) (fun u s₂ => wpAny (model X.prog X.w) X.A (compareOp op v u) (EP X pins σ Q) X.xe s₂) X.xe s₁) X.xe s
theorem nobehind (b : Expr) {op : CmpOp} (h : op ≠ .In) (h2 : op ≠ .NotIn) : behindInMarks op b = false := by
  have e1 : (op == CmpOp.In) = false := by cases op <;> first | rfl | exact absurd rfl h
  have e2 : (op == CmpOp.NotIn) = false := by cases op <;> first | rfl | exact absurd rfl h2
  cases b <;> simp [behindInMarks, e1, e2]
def tIsN (ta : TE) : TE := fun σ H Q => ta σ H fun x H1 => Q (.bl (decide (x = .non))) H1
theorem RelV.none_iff {x : V} {v : Value} (r : RelV x v) : (v == Value.none) = decide (x = .non) := by
  cases x with
  | non => cases r; rfl
  | bl _ => cases r; rfl
  | int _ => obtain ⟨t, rfl⟩ := r; rfl
  | str _ => obtain ⟨t, rfl⟩ := r; rfl
  | byt _ => obtain ⟨t, rfl⟩ := r; rfl
  | flt _ => obtain ⟨t, rfl⟩ := r; rfl
  | ref _ => cases r; rfl
  | ty _ => cases r; rfl
theorem pc_isN {j pos'} (ha : PE X a ta) : PC X .Is a (.Constant .none j pos') (tIsN ta) := by
  intro pins s σ H Q I h
  refine thn (ha pins s σ H _ I h) fun v s1 ⟨x, H1, I1, r1, q1⟩ => ?_
  exact Constant_none (is_none_gen ⟨.bl _, H1, I1, by rw [r1.none_iff]; rfl, q1⟩)
def tB (t : TE) : TT := fun σ H Q => t σ H fun x H1 => ∃ c, x = .bl c ∧ Q c H1
theorem pe_cmp {op : CmpOp} {t : TE} (h : PC X op a b t) (h1 : behindInMarks op b = false := by first | exact nobehind _ (by decide) (by decide) | rfl) : PE X (.Compare a [op] [b] pos) t := fun pins s σ H Q I hw => wpAny_Compare1 (h pins s σ H Q I hw) h1
theorem pt_cmp {op : CmpOp} {t : TE} (h : PC X op a b t) (h1 : behindInMarks op b = false := by first | exact nobehind _ (by decide) (by decide) | rfl) : PT X (.Compare a [op] [b] pos) (tB t) := by
  intro pins s σ H Q I hw
  refine wpAny_isTrue_Compare1 (thn (h pins s σ H _ I hw) fun v s1 h1 => thn h1 fun u s2 h2 => thn h2 fun c s3 ⟨x, H1, I1, r1, q1⟩ => ?_) h1
  obtain ⟨d, rfl, q⟩ := q1
  cases r1
  exact wpAny_truthy_bool ⟨H1, I1, q⟩
theorem pt_val {e : Expr} {t : TE} (h : PE X e t) (he : ∀ whole, isTrue e X.env whole = (do let v ← whole; standAt e.pos; holding [v] (truthy v)) := by intro _; rfl) : PT X e (tB t) := by
  intro pins s σ H Q I hw
  refine isTrue_plain (thn (h pins s σ H _ I hw) fun v s1 ⟨x, H1, I1, r1, q1⟩ => ?_) (he _)
  obtain ⟨d, rfl, q⟩ := q1
  cases r1
  exact wpAny_truthy_bool ⟨H1, I1, q⟩
variable {tA tB' : TT} {rest : List Expr}
def tAnd (t u : TT) : TT := fun σ H Q => t σ H fun c H1 => if c = true then u σ H1 Q else Q false H1
def tOr (t u : TT) : TT := fun σ H Q => t σ H fun c H1 => if c = true then Q true H1 else u σ H1 Q
def tNot (t : TT) : TT := fun σ H Q => t σ H fun c H1 => Q (!c) H1
theorem pw_and1 (ha : PT X a tA) : PW X (.BoolOp .And [a] pos) tA := by
  intro wh pins s σ H Q I h
  refine isTrue_and (thn (ha pins s σ H Q I h) fun c s1 e => ?_)
  cases c with
  | true => exact isTrue_and_nil e
  | false => exact e
theorem pw_or1 (ha : PT X a tA) : PW X (.BoolOp .Or [a] pos) tA := by
  intro wh pins s σ H Q I h
  refine isTrue_or (thn (ha pins s σ H Q I h) fun c s1 e => ?_)
  cases c with
  | false => exact isTrue_or_nil e
  | true => exact e
theorem pw_and (ha : PT X a tA) (hb : PW X (.BoolOp .And (b :: rest) pos) tB') : PW X (.BoolOp .And (a :: b :: rest) pos) (tAnd tA tB') := by
  intro wh pins s σ H Q I h
  refine isTrue_and (thn (ha pins s σ H _ I h) fun c s1 ⟨H1, I1, q1⟩ => ?_)
  cases c with
  | true => exact hb wh pins s1 σ H1 Q I1 q1
  | false => exact ⟨H1, I1, q1⟩
theorem pw_or (ha : PT X a tA) (hb : PW X (.BoolOp .Or (b :: rest) pos) tB') : PW X (.BoolOp .Or (a :: b :: rest) pos) (tOr tA tB') := by
  intro wh pins s σ H Q I h
  refine isTrue_or (thn (ha pins s σ H _ I h) fun c s1 ⟨H1, I1, q1⟩ => ?_)
  cases c with
  | true => exact ⟨H1, I1, q1⟩
  | false => exact hb wh pins s1 σ H1 Q I1 q1
theorem pt_not (ha : PT X a tA) : PT X (.UnaryOp .Not a pos) (tNot tA) := by
  intro pins s σ H Q I h
  exact isTrue_not (ha pins s σ H (fun c H1 => Q (!c) H1) I h)
def tAndV (ta tb : TE) : TE := fun σ H Q => ta σ H fun x H1 => ∃ c, x = .bl c ∧ if c = true then tb σ H1 Q else Q (.bl false) H1
def tOrV (ta tb : TE) : TE := fun σ H Q => ta σ H fun x H1 => ∃ c, x = .bl c ∧ if c = true then Q (.bl true) H1 else tb σ H1 Q
def tNotV (ta : TE) : TE := fun σ H Q => ta σ H fun x H1 => ∃ c, x = .bl c ∧ Q (.bl (!c)) H1
theorem pe_one {op} {t : TE} (h : PE X a t) : PE X (.BoolOp op [a] pos) t := fun pins s σ H Q I hw => BoolOp_one (h pins s σ H Q I hw)
theorem pe_and (ha : PE X a ta) (hb : PE X (.BoolOp .And (b :: rest) pos) tb) : PE X (.BoolOp .And (a :: b :: rest) pos) (tAndV ta tb) := by
  intro pins s σ H Q I h
  refine BoolOp_and (thn (ha pins s σ H _ I h) fun v s1 ⟨x, H1, I1, r1, q1⟩ => ?_)
  obtain ⟨c, rfl, q1⟩ := q1
  cases r1
  refine wpAny_truthy_bool ?_
  cases c with
  | true => exact hb pins s1 σ H1 Q I1 q1
  | false => exact ⟨.bl false, H1, I1, rfl, q1⟩
theorem pe_or (ha : PE X a ta) (hb : PE X (.BoolOp .Or (b :: rest) pos) tb) : PE X (.BoolOp .Or (a :: b :: rest) pos) (tOrV ta tb) := by
  intro pins s σ H Q I h
  refine BoolOp_or (thn (ha pins s σ H _ I h) fun v s1 ⟨x, H1, I1, r1, q1⟩ => ?_)
  obtain ⟨c, rfl, q1⟩ := q1
  cases r1
  refine wpAny_truthy_bool ?_
  cases c with
  | false => exact hb pins s1 σ H1 Q I1 q1
  | true => exact ⟨.bl true, H1, I1, rfl, q1⟩
theorem pe_not (ha : PE X a ta) : PE X (.UnaryOp .Not a pos) (tNotV ta) := by
  intro pins s σ H Q I h
  refine UnaryOp_ (thn (ha pins s σ H _ I h) fun v s1 ⟨x, H1, I1, r1, q1⟩ => ?_)
  obtain ⟨c, rfl, q1⟩ := q1
  cases r1
  exact not_of (wpAny_truthy_bool ⟨.bl (!c), H1, I1, rfl, q1⟩)
def tIf (t : TT) (ta tb : TE) : TE := fun σ H Q => t σ H fun c H1 => if c = true then ta σ H1 Q else tb σ H1 Q
theorem pe_ifExp {c : Expr} (hc : PT X c tA) (ha : PE X a ta) (hb : PE X b tb) : PE X (.IfExp c a b pos) (tIf tA ta tb) := by
  intro pins s σ H Q I h
  refine wpAny_IfExp (thn (hc pins s σ H _ I h) fun d s1 ⟨H1, I1, q1⟩ => ?_)
  cases d with
  | true => exact ha pins s1 σ H1 Q I1 q1
  | false => exact hb pins s1 σ H1 Q I1 q1
end
end L2
namespace L2
open PySem PySem.Spec PyProof.Rows
def SqL (K : PySem.W.Frag) (H : Hp) (a : Addr) (xs : List V) : Prop :=
  Rd H a (.lst xs) ∨
    ∃ (o : Obj) (its : Array Value) (n : Nat), K.lookup a = some o ∧ o.cls = .type "list" ∧ o.dict = none ∧ o.data = .seq its n ∧ its.size ≤ sizeLine ∧ Vals xs its.toList
def SqT (K : PySem.W.Frag) (H : Hp) (a : Addr) (xs : List V) : Prop :=
  Rd H a (.tup xs) ∨
    ∃ (o : Obj) (its : Array Value) (n : Nat), K.lookup a = some o ∧ o.cls = .type "tuple" ∧ o.data = .seq its n ∧ its.size ≤ sizeLine ∧ Vals xs its.toList
def absV : Value → Option V
  | .none => some .non
  | .bool b => some (.bl b)
  | .int i _ => some (.int i)
  | .str x _ => some (.str x)
  | .bytes b _ => some (.byt b)
  | .float b _ => some (.flt b)
  | .ref a => some (.ref a)
  | .type n => some (.ty n)
  | _ => none
theorem RelV.abs {x : V} {u : Value} (r : RelV x u) : absV u = some x := by
  cases x with
  | non => cases r; rfl
  | bl _ => cases r; rfl
  | int _ => obtain ⟨t, rfl⟩ := r; rfl
  | str _ => obtain ⟨t, rfl⟩ := r; rfl
  | byt _ => obtain ⟨t, rfl⟩ := r; rfl
  | flt _ => obtain ⟨t, rfl⟩ := r; rfl
  | ref _ => cases r; rfl
  | ty _ => cases r; rfl
theorem RelV.inj {x y : V} {u : Value} (r : RelV x u) (q : RelV y u) : x = y := Option.some.inj (r.abs.symm.trans q.abs)
theorem Vals.inj : ∀ {xs ys : List V} {us : List Value}, Vals xs us → Vals ys us → xs = ys
  | _, _, _, .nil, .nil => rfl
  | _, _, _, .cons r t, .cons r' t' => by rw [r.inj r', Vals.inj t t']
section
variable {X : Cx} {pins : List (Addr × Obj)} {σ : St} {H : Hp} {s : Shared} {a : Addr} {xs ys : List V}
theorem SqL.of {K : PySem.W.Frag} (h : H a = some (.lst xs)) : SqL K H a xs := .inl (.inl h)
theorem SqT.of {K : PySem.W.Frag} (h : H a = some (.tup xs)) : SqT K H a xs := .inl (.inl h)
theorem Inv.list (I : Inv X pins σ H s) (h : SqL X.K H a xs) : ∃ its : List Value, Vals xs its ∧ PlainL s.heap a its.toArray ∧ xs.length ≤ sizeLine := by
  rcases h with h | ⟨o, its, n, hk, hc, hd, hs, hz, r⟩
  · obtain ⟨z, its, n, r, e⟩ := h.ok I.hok
    exact ⟨its, r, ⟨_, n, e, rfl, rfl, rfl⟩, z⟩
  · refine ⟨its.toList, r, ⟨o, n, I.kIn a o hk, hc, hd, by simpa using hs⟩, ?_⟩
    have e := r.length
    simp only [Array.length_toList] at e
    omega
theorem Inv.tuple (I : Inv X pins σ H s) (h : SqT X.K H a xs) : ∃ its : List Value, Vals xs its ∧ IsTup s.heap a its.toArray ∧ xs.length ≤ sizeLine := by
  rcases h with h | ⟨o, its, n, hk, hc, hs, hz, r⟩
  · obtain ⟨z, its, r, p⟩ := h.ok I.hok
    exact ⟨its, r, p, z⟩
  · refine ⟨its.toList, r, ⟨o, I.kIn a o hk, hc, n, by simpa using hs⟩, ?_⟩
    have e := r.length
    simp only [Array.length_toList] at e
    omega
theorem Inv.list_inj (I : Inv X pins σ H s) (h : SqL X.K H a xs) (h' : SqL X.K H a ys) : xs = ys := by
  obtain ⟨its, r, ⟨o, n, e, _, _, d⟩, _⟩ := I.list h
  obtain ⟨its', r', ⟨o', n', e', _, _, d'⟩, _⟩ := I.list h'
  rw [e] at e'; cases e'
  rw [d] at d'
  injection d' with d1 _
  have : its = its' := by simpa using congrArg Array.toList d1
  subst this
  exact r.inj r'
end
abbrev Cx.wish (X : Cx) (E : Value → Shared → Prop) : Cx := { X with xe := E }
abbrev Cx.nox (X : Cx) : Cx := X.wish fun _ _ => False
theorem Cx.Ok.wish {X : Cx} (ok : X.Ok) (E : Value → Shared → Prop) : (X.wish E).Ok :=
  ⟨ok.mod, ok.kind, ok.glob, ok.blt, ok.above, ok.inj, ok.has, ok.cab, ok.hd, ok.frames, ok.stk, ok.exf, ok.bs, ok.bsz, ok.noex, ok.exfs, ok.funs, ok.frf⟩
theorem Cx.Ok.unwish {X : Cx} {E : Value → Shared → Prop} (ok : (X.wish E).Ok) : X.Ok :=
  ⟨ok.mod, ok.kind, ok.glob, ok.blt, ok.above, ok.inj, ok.has, ok.cab, ok.hd, ok.frames, ok.stk, ok.exf, ok.bs, ok.bsz, ok.noex, ok.exfs, ok.funs, ok.frf⟩
section
variable {X : Cx} {pins : List (Addr × Obj)} {σ : St} {H : Hp} {s : Shared} {E : Value → Shared → Prop}
theorem Inv.wish (I : Inv X pins σ H s) (E : Value → Shared → Prop) : Inv (X.wish E) pins σ H s := ⟨I.ok.wish E, I.os, I.bare, I.base, I.loc, I.cell, I.free, I.freeC, I.pin, I.hok, I.len⟩
theorem Inv.unwish (I : Inv (X.wish E) pins σ H s) : Inv X pins σ H s := ⟨I.ok.unwish, I.os, I.bare, I.base, I.loc, I.cell, I.free, I.freeC, I.pin, I.hok, I.len⟩
theorem SP.unwish {D : Ends} {f : Flow} {s' : Shared} (h : SP (X.wish E) pins D f s') : SP X pins D f s' := by
  cases f with
  | next => obtain ⟨σ', H', I, q⟩ := h; exact ⟨σ', H', I.unwish, q⟩
  | brk => obtain ⟨σ', H', I, q⟩ := h; exact ⟨σ', H', I.unwish, q⟩
  | cont => obtain ⟨σ', H', I, q⟩ := h; exact ⟨σ', H', I.unwish, q⟩
  | ret u => obtain ⟨v, σ', H', I, r, q⟩ := h; exact ⟨v, σ', H', I.unwish, r, q⟩
theorem PSs.nox {st : List Stmt} {t : TS} (h : PSs X.nox st t) : PSs X st t := fun pins s σ H D I hw =>
  wpAny_mono (h pins s σ H D (I.wish _) hw) (fun _ _ q => q.unwish) fun _ _ z => False.elim z
end
section
variable {X : Cx} {st : Stmt} {rest : List Stmt} {t u : TS} {e : Expr} {te : TE} {pos : Pos}
def tNext : TS := fun D σ H => D.nx σ H
def tSeq (t u : TS) : TS := fun D σ H => t { D with nx := u D } σ H
theorem pss_nil : PSs X [] tNext := fun _ _ σ H _ I h => wpAny_execs_nil ⟨σ, H, I, h⟩
theorem pss_cons (h1 : PS X st t) (h2 : PSs X rest u) : PSs X (st :: rest) (tSeq t u) := by
  intro pins s σ H D I h
  refine wpAny_execs_cons (thn (h1 pins s σ H { D with nx := u D } I h) fun f s1 q => ?_)
  cases f with
  | next =>
    obtain ⟨σ', H', I', q⟩ := q
    exact h2 pins s1 σ' H' D I' q
  | ret v => exact q
  | brk => exact q
  | cont => exact q
theorem pss_one (h1 : PS X st t) : PSs X [st] t := by
  intro pins s σ H D I h
  refine wpAny_execs_cons (thn (h1 pins s σ H D I h) fun f s1 q => ?_)
  cases f with
  | next => exact wpAny_execs_nil q
  | ret v => exact q
  | brk => exact q
  | cont => exact q
theorem Inv.quiet {pins : List (Addr × Obj)} {σ : St} {H : Hp} {s : Shared} (I : Inv X pins σ H s) : interactive X.env = false := by simp [interactive, I.ok.kind]
def tDrop (te : TE) : TS := fun D σ H => te σ H fun _ H1 => D.nx σ H1
theorem ps_expr (he : PE X e te) (hs : swapsWith e none pos.line X.env = pure false := by rfl) : PS X (.Expr e pos) (tDrop te) := by
  intro pins s σ H D I h
  exact wpAny_Expr_any (thn (he pins s σ H _ I h) fun v s1 ⟨x, H1, I1, r1, q1⟩ => ⟨σ, H1, I1, q1⟩) I.quiet hs
def tRet (te : TE) : TS := fun D σ H => te σ H D.rt
theorem ps_ret (he : PE X e te) : PS X (.Return (some e) pos) (tRet te) := by
  intro pins s σ H D I h
  exact wpAny_Return_some (thn (he pins s σ H _ I h) fun v s1 ⟨x, H1, I1, r1, q1⟩ => ⟨x, σ, H1, I1, r1, q1⟩)
def tIfS (c : TT) (t u : TS) : TS := fun D σ H => c σ H fun b H1 => if b = true then t D σ H1 else u D σ H1
theorem ps_if {c : Expr} {a b : List Stmt} {tc : TT} (hc : PT X c tc) (ha : PSs X a t) (hb : PSs X b u) : PS X (.If c a b pos) (tIfS tc t u) := by
  intro pins s σ H D I h
  refine wpAny_If (thn (hc pins s σ H _ I h) fun d s1 ⟨H1, I1, q1⟩ => ?_)
  cases d with
  | true => exact ha pins s1 σ H1 D I1 q1
  | false => exact hb pins s1 σ H1 D I1 q1
end
abbrev TG := V → St → Hp → (St → Hp → Prop) → Prop
abbrev TGs := List V → St → Hp → (St → Hp → Prop) → Prop
def PG (X : Cx) (target : Expr) (t : TG) : Prop :=
  ∀ (pins : List (Addr × Obj)) (s : Shared) (σ : St) (H : Hp) (v : V) (u : Value) (Q : St → Hp → Prop), Inv X pins σ H s → RelV v u → t v σ H Q →
    wpAny (model X.prog X.w) X.A (assign target X.env u) (fun _ s' => ∃ σ' H', Inv X pins σ' H' s' ∧ Q σ' H') X.xe s
def PGs (X : Cx) (ts : List Expr) (t : TGs) : Prop :=
  ∀ (pins : List (Addr × Obj)) (s : Shared) (σ : St) (H : Hp) (vs : List V) (us : List Value) (Q : St → Hp → Prop), Inv X pins σ H s → Vals vs us → t vs σ H Q →
    wpAny (model X.prog X.w) X.A (assignInOrder ((assignEach ts X.env).map (·.2)) us) (fun _ s' => ∃ σ' H', Inv X pins σ' H' s' ∧ Q σ' H') X.xe s
abbrev TIp := V → V → Hp → VK → Prop
def PIp (X : Cx) (op : Operator) (t : TIp) : Prop :=
  ∀ (pins : List (Addr × Obj)) (s : Shared) (σ : St) (H : Hp) (x y : V) (v u : Value) (Q : VK), Inv X pins σ H s → RelV x v → RelV y u → t x y H Q →
    wpAny (model X.prog X.w) X.A (inplaceOp op v u) (EP X pins σ Q) X.xe s
section
variable {X : Cx} {pos : Pos}
def gName (i : Nat) : TG := fun v σ H Q => Q (σ.set i (some v)) H
theorem pg_name {i : Nat} {x : Str} (hN : X.N.Nodup) (hi : X.N[i]? = some x) (hx : Loc X.env.scope x) (hf : X.fn x = true ∨ X.env.scope.names.lookup x = some .local := by first | exact .inl rfl | exact .inr rfl | assumption) : PG X (.Name x pos) (gName i) := by
  intro pins s σ H v u Q I r h
  exact wpAny_assign_Name (store_ok I hN hi hx r (fun s' I' => ⟨_, H, I', h⟩) hf)
def gNil : TGs := fun vs σ H Q => vs = [] ∧ Q σ H
def gCons (t : TG) (u : TGs) : TGs := fun vs σ H Q => ∃ v r, vs = v :: r ∧ t v σ H fun σ' H' => u r σ' H' Q
theorem pgs_nil : PGs X [] gNil := by
  intro pins s σ H vs us Q I r h
  obtain ⟨e, h⟩ := h
  subst e
  cases r
  exact assignInOrder_nil ⟨σ, H, I, h⟩
theorem pgs_cons {e : Expr} {es : List Expr} {t : TG} {u : TGs} (h1 : PG X e t) (h2 : PGs X es u)
    (hs : (assignEach (e :: es) X.env).map (·.2) = assign e X.env :: (assignEach es X.env).map (·.2) := by rfl) : PGs X (e :: es) (gCons t u) := by
  intro pins s σ H vs us Q I r h
  obtain ⟨v, vr, e1, h⟩ := h
  subst e1
  cases r with
  | cons r rr =>
    rw [hs]
    refine assignInOrder_cons (thn (h1 pins s σ H _ _ _ I r h) fun _ s1 ⟨σ1, H1, I1, q1⟩ => ?_)
    exact h2 pins s1 σ1 H1 _ _ Q I1 rr q1
def gTup (K : PySem.W.Frag) (n : Nat) (t : TGs) : TG := fun v σ H Q => ∃ a xs, v = .ref a ∧ SqT K H a xs ∧ xs.length = n ∧ t xs σ H Q
theorem pg_tup {es : List Expr} {k : Nat} {t : TGs} {n : Nat} (hc : X.calm = true) (h : PGs X es t)
    (hn : (assignEach es X.env).length = n := by rfl) (hst : (assignEach es X.env).findIdx? (·.1) = none := by rfl) : PG X (.Tuple es k pos) (gTup X.K n t) := by
  intro pins s σ H v u Q I r hw
  obtain ⟨a, xs, e1, hq, hl, hw⟩ := hw
  subst e1
  cases r
  obtain ⟨its, rv, ht, hz⟩ := I.tuple hq
  refine assign_Tuple_tuple (I.ok.hd hc) ht (by simp [hn, ← hl, rv.length]) hst fun h' hx => ?_
  have I1 : Inv X pins σ H { s with heap := h' } := I.kept (t' := s.toks) fun b o e => hx b o (Nat.ne_of_lt (Heap.lt_size e)) e
  exact h pins _ σ H xs _ Q I1 (by simpa using rv) hw
def tAsg (te : TE) (g : TG) : TS := fun D σ H => te σ H fun x H1 => g x σ H1 D.nx
theorem ps_set {i : Nat} {x : Str} {e : Expr} {te : TE} {pos' : Pos} (hN : X.N.Nodup) (hi : X.N[i]? = some x) (hx : Loc X.env.scope x) (he : PE X e te) (hs : swapsWith e (some (.Name x pos')) pos.line X.env = pure false := by rfl) (hf : X.fn x = true ∨ X.env.scope.names.lookup x = some .local := by first | exact .inl rfl | exact .inr rfl | assumption) :
    PS X (.Assign [.Name x pos'] e pos) (tAsg te (gName i)) := by
  intro pins s σ H D I h
  refine wpAny_Assign_Name (thn (he pins s σ H _ I h) fun v s1 ⟨y, H1, I1, r1, q1⟩ => ?_) hs
  exact store_ok I1 hN hi hx r1 (fun s2 I2 => ⟨_, H1, I2, q1⟩) hf
def tAug (i : Nat) (te : TE) (ti : TIp) : TS := fun D σ H => ∃ x, σ[i]? = some (some x) ∧ te σ H fun y H1 => ti x y H1 fun z H2 => D.nx (σ.set i (some z)) H2
theorem ps_aug {i : Nat} {x : Str} {e : Expr} {te : TE} {op : Operator} {ti : TIp} {pos' : Pos} (hN : X.N.Nodup) (hi : X.N[i]? = some x) (hx : Loc X.env.scope x) (he : PE X e te) (ho : PIp X op ti) (hf : X.fn x = true ∨ X.env.scope.names.lookup x = some .local := by first | exact .inl rfl | exact .inr rfl | assumption) :
    PS X (.AugAssign (.Name x pos') op e pos) (tAug i te ti) := by
  intro pins s σ H D I h
  obtain ⟨v, e1, h⟩ := h
  obtain ⟨m, hn, hl⟩ := I.loc
  have vis : Vis X.env.scope x := by rcases hx with k | k; exact .inl k; exact .inr (.inl k)
  obtain ⟨u, r, l⟩ := hl i x v hi e1 vis
  refine wpAny_AugAssign_Name ?_
  have go : wpAny (model X.prog X.w) X.A (eval e X.env) (fun w s₂ => wpAny (model X.prog X.w) X.A (inplaceOp op u w) (fun r s₃ => wpAny (model X.prog X.w) X.A (storeName X.env x r) (fun _ => SP X pins D .next) X.xe s₃) X.xe s₂) X.xe s := by
    refine thn (he pins s σ H _ I h) fun w s1 ⟨y, H1, I1, r1, q1⟩ => ?_
    refine thn (ho pins s1 σ H1 v y u w _ I1 r r1 q1) fun z s2 ⟨zv, H2, I2, r2, q2⟩ => ?_
    exact store_ok I2 hN hi hx r2 (fun s3 I3 => ⟨_, H2, I3, q2⟩) hf
  rcases l with ⟨hk, hm⟩ | ⟨hk, c, hc, hcell⟩
  · exact wpAny_loadName_local I.ok.kind hk hn hm go
  · rcases hk with hk | hk
    · exact wpAny_loadName_cell I.ok.kind hk hc hcell go
    · rcases hx with k | k
      · have : X.env.scope.names.lookup x = some .free := hk
        rw [k] at this; cases this
      · have : X.env.scope.names.lookup x = some .free := hk
        rw [k] at this; cases this
def ipI (f : Int → Int → Int) : TIp := fun x y H Q => ∃ i j, x = .int i ∧ y = .int j ∧ Q (.int (f i j)) H
theorem ip_add : PIp X .Add (ipI fun i j => i + j) := by
  intro pins s σ H x y v u Q I r1 r2 h
  obtain ⟨i, j, e1, e2, q⟩ := h
  subst e1; subst e2
  obtain ⟨t, rfl⟩ := r1
  obtain ⟨t', rfl⟩ := r2
  exact iadd_int ⟨.int _, H, I.tok _, ⟨_, rfl⟩, q⟩
end
section
variable {X : Cx} {pos : Pos}
def tWhile (c : TT) (tb : TS) : TS := fun D σ H => ∃ W : Nat → St → Hp → Prop, (∃ m, W m σ H) ∧ ∀ m σ H, W m σ H →
  c σ H fun b H1 => if b = true then ∃ N : St → Hp → Prop, (∀ σ' H', N σ' H' → ∃ m', m' < m ∧ W m' σ' H') ∧ tb { D with nx := N, ct := N, bk := D.nx } σ H1 else D.nx σ H1
theorem ps_while {c : Expr} {body : List Stmt} {tc : TT} {tb : TS} (hp : PassesOwn (model X.prog X.w) X.A X.env X.xe) (hc : PT X c tc) (hb : PSs X body tb) : PS X (.While c body [] pos) (tWhile tc tb) := by
  intro pins s σ H D I h
  obtain ⟨W, ⟨m0, w0⟩, turn⟩ := h
  refine wpAny_While (codeAny_whileLoop (fun n s' => ∃ σ' H', Inv X pins σ' H' s' ∧ W n σ' H') ?_ m0 ⟨σ, H, I, w0⟩)
  rintro n s1 ⟨σ1, H1, I1, w1⟩
  refine wpAny_passesOwn hp (thn (hc pins s1 σ1 H1 _ I1 (turn n σ1 H1 w1)) fun b s2 ⟨H2, I2, q2⟩ => ?_)
  cases b with
  | true =>
    obtain ⟨N, hN, q2⟩ := q2
    rw [if_pos rfl]
    refine wpAny_passesOwn hp (thn (hb pins s2 σ1 H2 _ I2 q2) fun f s3 q3 => ?_)
    cases f with
    | next =>
      obtain ⟨σ3, H3, I3, n3⟩ := q3
      obtain ⟨m', hm, w3⟩ := hN σ3 H3 n3
      exact ⟨m', hm, σ3, H3, I3, w3⟩
    | cont =>
      obtain ⟨σ3, H3, I3, n3⟩ := q3
      obtain ⟨m', hm, w3⟩ := hN σ3 H3 n3
      exact ⟨m', hm, σ3, H3, I3, w3⟩
    | brk => exact q3
    | ret v => exact q3
  | false =>
    rw [if_neg Bool.false_ne_true]
    exact wpAny_execs_nil ⟨σ1, H2, I2, q2⟩
end
structure It where
  go : Nat → Hp → Prop
  yld : Nat → Hp → V → Hp → Prop
  stop : Nat → Hp → Prop
def FpOk (X : Cx) (pins : List (Addr × Obj)) (H : Hp) (b : Addr) : Prop :=
  H b = none ∧ b ≠ X.env.locals ∧ b ∉ X.fs ∧ (b ∈ X.ex ∨ X.s_0.heap.objs.size ≤ b) ∧ (∀ x c, X.env.cells.lookup x = some c → c ≠ b) ∧ ∀ p ∈ X.pn ++ pins, p.1 ≠ b
theorem Inv.fpOk {X : Cx} {pins : List (Addr × Obj)} {σ : St} {H H' : Hp} {s : Shared} {b : Addr} (I : Inv X pins σ H s) (hb : s.heap.objs.size ≤ b) (hn : H' b = none) : FpOk X pins H' b := by
  refine ⟨hn, Nat.ne_of_gt (Nat.lt_of_lt_of_le I.lt hb), I.nofs hb, .inr (Nat.le_trans I.sz hb), fun x c e z => ?_, fun p hp z => ?_⟩
  · obtain ⟨v, q⟩ := I.cell x c e
    exact absurd (Nat.lt_of_lt_of_le q.lt (by rw [z]; exact hb)) (Nat.lt_irrefl _)
  · exact absurd (Nat.lt_of_lt_of_le (Heap.lt_size (I.pin p hp).1) (by rw [z]; exact hb)) (Nat.lt_irrefl _)
structure Turn (P : Program) (w : World) (K : PySem.W.Frag) (tg : Expr) (J : It) (fp : List Addr) (it : Addr) (tn : Nat → Heap → Prop) : Prop where
  mem : it ∈ fp
  obj : ∀ i h, tn i h → ∀ b ∈ fp, ∃ o, h.get? b = some o ∧ ∀ v, o.data ≠ .cell v
  keep : ∀ i h h', tn i h → (∀ b ∈ fp, ∀ o, h.get? b = some o → h'.get? b = some o) → tn i h'
  item : ∀ (X : Cx), X.prog = P → X.w = w → X.K = K → X.calm = true → ∀ (i : Nat) (pins : List (Addr × Obj)) (s : Shared) (σ : St) (H : Hp) (E : Value → Shared → Prop), Inv X pins σ H s → (∀ b ∈ fp, FpOk X pins H b) → tn i s.heap → J.go i H →
    wpAny (model P w) X.A (pyNext (.ref it)) (fun r s1 => ∃ u, r = some u ∧
      wpAny (model P w) X.A (letOwnedTupleGo tg (.ref it) u) (fun _ s2 => ∃ x H', Inv X pins σ H' s2 ∧ RelV x u ∧ J.yld i H x H' ∧ tn (i + 1) s2.heap ∧ ∀ b ∈ fp, H' b = none) E s1) E s
  done : ∀ (X : Cx), X.prog = P → X.w = w → X.K = K → X.calm = true → ∀ (i : Nat) (pins : List (Addr × Obj)) (s : Shared) (σ : St) (H : Hp) (E : Value → Shared → Prop), Inv X pins σ H s → (∀ b ∈ fp, FpOk X pins H b) → tn i s.heap → J.stop i H →
    wpAny (model P w) X.A (pyNext (.ref it)) (fun r s1 => r = none ∧ Inv X pins σ H s1) E s
  self : ∀ (A : Around) (i : Nat) (s : Shared) (Q : Value → Shared → Prop) (E : Value → Shared → Prop), tn i s.heap → Q (.ref it) s → wpAny (model P w) A (pyIter (.ref it)) Q E s
abbrev TI := St → Hp → (It → Hp → Prop) → Prop
def PIE (X : Cx) (pins : List (Addr × Obj)) (σ : St) (tg : Expr) (R : It → Hp → Prop) (itv : Value) (s2 : Shared) : Prop :=
  ∃ (it : Addr) (fp : List Addr) (tn : Nat → Heap → Prop) (J : It) (H' : Hp), itv = .ref it ∧ Inv X pins σ H' s2 ∧ Turn X.prog X.w X.K tg J fp it tn ∧ tn 0 s2.heap ∧ (∀ b ∈ fp, FpOk X pins H' b) ∧ R J H'
def PI (X : Cx) (tg iter : Expr) (wi : TI) : Prop :=
  ∀ (pins : List (Addr × Obj)) (s : Shared) (σ : St) (H : Hp) (R : It → Hp → Prop), Inv X pins σ H s → wi σ H R →
    wpAny (model X.prog X.w) X.A (eval iter X.env) (fun v s1 => wpAny (model X.prog X.w) X.A (pyIter v) (PIE X pins σ tg R) X.xe s1) X.xe s
theorem go_of {M : Model} {A : Around} {E : Value → Shared → Prop} {s : Shared} {tg : Expr} {it : Addr} {u : Value} {o : Obj} {n : String} {vs : Array Value} {Q : Unit → Shared → Prop} (ho : s.heap.get? it = some o) (hc : o.cls = .type n) (hd : o.data = .fields vs)
    (hn : ["enumerate", "zip", "dict_itemiterator", "dict_reverseitemiterator", "odict_iterator", "itertools.zip_longest", "itertools.pairwise"].contains n = false) (hQ : Q () s) : wpAny M A (letOwnedTupleGo tg (.ref it) u) Q E s := by
  unfold letOwnedTupleGo
  cases tg <;> first
    | exact wpAny_pure hQ
    | (cases u <;> first
        | exact wpAny_pure hQ
        | (refine wpAny_bind (wpAny_load ho ?_)
           rw [hc, hd]
           show wpAny M A (if (["enumerate", "zip", "dict_itemiterator", "dict_reverseitemiterator", "odict_iterator", "itertools.zip_longest", "itertools.pairwise"].contains n && vs[0]? == some (rawInt _)) = true then _ else _) Q E s
           rw [if_neg (by intro h; rw [hn, Bool.false_and] at h; cases h)]
           exact wpAny_pure hQ))
def Itl (K : PySem.W.Frag) (a : Addr) : It :=
  ⟨fun i H => ∃ xs x, SqL K H a xs ∧ xs[i]? = some x, fun i H x H' => H' = H ∧ ∀ xs, SqL K H a xs → xs[i]? = some x, fun i H => ∃ xs, SqL K H a xs ∧ xs.length ≤ i⟩
def Itr (lo : Int) (n : Nat) : It := ⟨fun i _ => i < n, fun i H x H' => H' = H ∧ x = .int (lo + i), fun i _ => n ≤ i⟩
theorem turn_list {P : Program} {w : World} {K : PySem.W.Frag} {tg : Expr} (a it : Addr) : Turn P w K tg (Itl K a) [it] it (fun i h => h.IsListIter it a i) where
  mem := by simp
  obj := fun i h st b hb => by
    have e : b = it := by simpa using hb
    subst e
    obtain ⟨o, e, c, d⟩ := st
    exact ⟨o, e, fun v z => by rw [d] at z; cases z⟩
  keep := fun i h h' st k => st.at fun o e => k it (by simp) o e
  item := by
    intro X hP hw hK hc i pins s σ H E I hf st hg
    subst hP hw hK
    obtain ⟨xs, x, hq, hx⟩ := hg
    obtain ⟨its, rv, p, hz⟩ := I.list hq
    obtain ⟨u, hu, ru⟩ := rv.get hx
    obtain ⟨f0, f1, f2, f3, f4, f5⟩ := hf it (by simp)
    refine wpAny_pyNext_list_item st p.isList (x := u) (by simpa using hu) fun h' st' sb => ?_
    have I1 : Inv X pins σ H { s with heap := h' } := I.turned (t' := s.toks) (fun b o hb e => (sb.2 b hb).trans e) f0 f1 f3 f4 f5
    obtain ⟨o, e, c, d⟩ := id st'
    exact ⟨u, rfl, go_of (s := { s with heap := h' }) e c d (by decide) ⟨x, H, I1, ru, ⟨rfl, fun ys hy => by rw [I.list_inj hy hq]; exact hx⟩, st', fun b hb => (hf b hb).1⟩⟩
  done := by
    intro X hP hw hK hc i pins s σ H E I hf st hg
    subst hP hw hK
    obtain ⟨xs, hq, hx⟩ := hg
    obtain ⟨its, rv, p, hz⟩ := I.list hq
    obtain ⟨f0, f1, f2, f3, f4, f5⟩ := hf it (by simp)
    have hl := rv.length
    exact wpAny_pyNext_list_end (I.ok.hd hc) st p.isList (by simp; omega) fun h' eb => ⟨rfl, I.turned (t' := s.toks) (fun b o hb e => eb b o hb e) f0 f1 f3 f4 f5⟩
  self := fun _ _ _ _ _ st h => wpAny_pyIter_listiter st h
theorem turn_range {P : Program} {w : World} {K : PySem.W.Frag} {tg : Expr} (it : Addr) (lo : Int) (n : Nat) : Turn P w K tg (Itr lo n) [it] it (fun i h => IsRangeIter h it (lo + (i : Nat) * 1) ((n : Int) - (i : Nat)) 1) where
  mem := by simp
  obj := fun i h st b hb => by
    have e : b = it := by simpa using hb
    subst e
    exact ⟨_, st, fun v z => by
      have z' : Data.fields _ = Data.cell v := z
      cases z'⟩
  keep := fun i h h' st k => k it (by simp) _ st
  item := by
    intro X hP hw hK hc i pins s σ H E I hf st hg
    subst hP hw hK
    obtain ⟨f0, f1, f2, f3, f4, f5⟩ := hf it (by simp)
    have W := Walks.range (prog := X.prog) (w := X.w) (I.ok.hd hc) it lo 1 n
    refine W.item i s _ _ hg st fun v h' tk hv st' kk => ?_
    obtain ⟨t, rfl⟩ := hv
    have I1 : Inv X pins σ H { s with heap := h', toks := tk } := I.turned (fun b o hb e => kk b o (by simpa using hb) e) f0 f1 f3 f4 f5
    refine ⟨_, rfl, go_of (s := { s with heap := h', toks := tk }) (n := "range_iterator") st' rfl rfl (by decide) ⟨.int (lo + i), H, I1, ⟨t, ?_⟩, ⟨rfl, rfl⟩, st', fun b hb => (hf b hb).1⟩⟩
    rw [Int.mul_one]
  done := by
    intro X hP hw hK hc i pins s σ H E I hf st hg
    subst hP hw hK
    obtain ⟨f0, f1, f2, f3, f4, f5⟩ := hf it (by simp)
    exact wpAny_pyNext_range_end (I.ok.hd hc) st (by have : n ≤ i := hg; omega) fun h' eb => ⟨rfl, I.turned (t' := s.toks) (fun b o hb e => eb b o hb e) f0 f1 f3 f4 f5⟩
  self := fun _ _ _ _ _ st h => wpAny_pyIter_rangeiter st h
end L2
namespace L2
open PySem PySem.Spec PyProof.Rows
section
variable {X : Cx} {tg : Expr}
def iList (K : PySem.W.Frag) (tl : TE) : TI := fun σ H R => tl σ H fun x H1 => ∃ a, x = .ref a ∧ (∃ xs, SqL K H1 a xs) ∧ R (Itl K a) H1
theorem pi_list {l : Expr} {tl : TE} (hl : PE X l tl) : PI X tg l (iList X.K tl) := by
  intro pins s σ H R I h
  refine thn (hl pins s σ H _ I h) fun v s1 ⟨x, H1, I1, r1, q1⟩ => ?_
  obtain ⟨a, e, ⟨xs, hq⟩, q⟩ := q1
  subst e
  cases r1
  obtain ⟨its, rv, p, hz⟩ := I1.list hq
  refine wpAny_pyIter_list p.isList ?_
  refine ⟨s1.heap.objs.size, [s1.heap.objs.size], _, _, H1, rfl, I1.kept (t' := s1.toks) fun b o e => Heap.get?_push_of_some _ e, turn_list a _, ⟨_, Heap.get?_push_size _ rfl, rfl, rfl⟩, fun b hb => ?_, q⟩
  have e : b = s1.heap.objs.size := by simpa using hb
  subst e
  exact I1.fpOk (Nat.le_refl _) (I1.hok.fresh (Nat.le_refl _))
theorem range_it {pins : List (Addr × Obj)} {σ : St} {H : Hp} {s : Shared} {R : It → Hp → Prop} {E : Value → Shared → Prop} {lo hi : Int} {t u v : Tok} {tk : Nat} (I : Inv X pins σ H s) (h1 : -(2 ^ 62) ≤ lo) (h2 : lo < 2 ^ 62) (h3 : -(2 ^ 62) ≤ hi) (h4 : hi < 2 ^ 62)
    (q : R (Itr lo (hi - lo).toNat) H) : wpAny (model X.prog X.w) X.A (pyIter (.ref s.heap.objs.size)) (PIE X pins σ tg R) E { s with heap := s.heap.push { cls := .type "range", data := .fields #[.int lo t, .int hi u, .int 1 v] }, toks := tk } := by
  refine wpAny_pyIter_range (IsRange.new ..) (small_one h1 h2 h3 h4) ?_
  have I1 : Inv X pins σ H { s with heap := s.heap.push { cls := .type "range", data := .fields #[.int lo t, .int hi u, .int 1 v] }, toks := tk } := I.kept fun b o e => Heap.get?_push_of_some _ e
  refine ⟨(s.heap.push { cls := .type "range", data := .fields #[.int lo t, .int hi u, .int 1 v] }).objs.size, [(s.heap.push { cls := .type "range", data := .fields #[.int lo t, .int hi u, .int 1 v] }).objs.size], _, _, H, rfl,
    I1.kept (t' := tk) fun b o e => Heap.get?_push_of_some _ e, turn_range _ lo (hi - lo).toNat, ?_, fun b hb => ?_, q⟩
  · have e1 : lo + ((0 : Nat) : Int) * 1 = lo := by simp
    have e2 : (((hi - lo).toNat : Nat) : Int) - ((0 : Nat) : Int) = Builtin.Range.rangeSize lo hi 1 := by rw [rangeSize_one]; split <;> omega
    show IsRangeIter _ _ (lo + ((0 : Nat) : Int) * 1) ((((hi - lo).toNat : Nat) : Int) - ((0 : Nat) : Int)) 1
    rw [e1, e2]
    exact Heap.get?_push_size _ rfl
  · have e : b = (s.heap.push { cls := .type "range", data := .fields #[.int lo t, .int hi u, .int 1 v] }).objs.size := by simpa using hb
    subst e
    exact I1.fpOk (Nat.le_refl _) (I1.hok.fresh (Nat.le_refl _))
def iRng1 (ta : TA) : TI := fun σ H R => ta σ H fun vs H1 => ∃ j : Int, vs = [.int j] ∧ -(2 ^ 62) ≤ j ∧ j < 2 ^ 62 ∧ R (Itr 0 j.toNat) H1
def iRng2 (ta : TA) : TI := fun σ H R => ta σ H fun vs H1 => ∃ i j : Int, vs = [.int i, .int j] ∧ (-(2 ^ 62) ≤ i ∧ i < 2 ^ 62 ∧ -(2 ^ 62) ≤ j ∧ j < 2 ^ 62) ∧ R (Itr i (j - i).toNat) H1
theorem pi_range1 {a : Expr} {ta : TA} {p pos : Pos} (hg : Gl X "range") (hm : X.mg "range" = none) (ha : PA X [a] ta) (hs : starEach [a] X.env = [(false, eval a X.env)] := by rfl) : PI X tg (.Call (.Name "range" p) [a] [] pos) (iRng1 ta) := by
  intro pins s σ H R I h
  refine Call_ (ld_blt I hg hm boot_range (PyProof.Rows.callWith_type1 (thn (ha pos pins s σ H _ I h) fun us s1 ⟨vs, H1, I1, r1, q1⟩ => ?_) hs rfl))
  obtain ⟨j, e, q1, q2, q⟩ := q1
  subst e
  cases r1 with
  | cons r rr =>
    cases rr
    obtain ⟨t, rfl⟩ := r
    exact call_range_1 (range_it I1 (by omega) (by omega) q1 q2 (by simpa using q))
theorem pi_range2 {a b : Expr} {ta : TA} {p pos : Pos} (hg : Gl X "range") (hm : X.mg "range" = none) (ha : PA X [a, b] ta) (hs : starEach [a, b] X.env = [(false, eval a X.env), (false, eval b X.env)] := by rfl) (hs2 : starEach [b] X.env = [(false, eval b X.env)] := by rfl) :
    PI X tg (.Call (.Name "range" p) [a, b] [] pos) (iRng2 ta) := by
  intro pins s σ H R I h
  refine Call_ (ld_blt I hg hm boot_range (PyProof.Rows.callWith_type1 (thn (ha pos pins s σ H _ I h) fun us s1 ⟨vs, H1, I1, r1, q1⟩ => ?_) (by rw [hs, hs2]) (by rw [hs2]; rfl)))
  obtain ⟨i, j, e, ⟨q1, q2, q3, q4⟩, q⟩ := q1
  subst e
  cases r1 with
  | cons r rr =>
    cases rr with
    | cons r' rr =>
      cases rr
      obtain ⟨t, rfl⟩ := r
      obtain ⟨t', rfl⟩ := r'
      exact call_range_2 (range_it I1 q1 q2 q3 q4 q)
def tFor (wi : TI) (g : TG) (tb : TS) : TS := fun D σ H => wi σ H fun J H1 => ∃ W : Nat → Nat → St → Hp → Prop, (∃ m, W 0 m σ H1) ∧ ∀ i m σ H, W i m σ H →
  (J.stop i H ∧ D.nx σ H) ∨ (J.go i H ∧ ∃ N : St → Hp → Prop, (∀ σ' H', N σ' H' → ∃ m', m' < m ∧ W (i + 1) m' σ' H') ∧ ∀ x H', J.yld i H x H' → g x σ H' fun σ2 H2 => tb { D with nx := N, ct := N, bk := D.nx } σ2 H2)
def pinsAt (fp : List Addr) (h : Heap) : List (Addr × Obj) := fp.filterMap fun b => (h.get? b).map fun o => (b, o)
theorem mem_pinsAt {fp : List Addr} {h : Heap} {b : Addr} {o : Obj} (hb : b ∈ fp) (e : h.get? b = some o) : (b, o) ∈ pinsAt fp h := List.mem_filterMap.mpr ⟨b, hb, by rw [e]; rfl⟩
theorem of_pinsAt {fp : List Addr} {h : Heap} {p : Addr × Obj} (hp : p ∈ pinsAt fp h) : p.1 ∈ fp ∧ h.get? p.1 = some p.2 := by
  obtain ⟨b, hb, e⟩ := List.mem_filterMap.mp hp
  cases q : h.get? b with
  | none => rw [q] at e; cases e
  | some o =>
    rw [q] at e
    have e' : (b, o) = p := Option.some.inj e
    subst e'
    exact ⟨hb, q⟩
theorem Inv.pinned {pins : List (Addr × Obj)} {σ : St} {H : Hp} {s : Shared} {fp : List Addr} (I : Inv X pins σ H s) (hf : ∀ b ∈ fp, FpOk X pins H b) (ho : ∀ b ∈ fp, ∃ o, s.heap.get? b = some o ∧ ∀ v, o.data ≠ .cell v) : Inv X (pins ++ pinsAt fp s.heap) σ H s :=
  I.pins_of fun p hp => (List.mem_append.mp hp).elim (fun z => I.pin p (List.mem_append_right _ z)) fun z => by
    obtain ⟨hb, e⟩ := of_pinsAt z
    obtain ⟨f0, f1, f2, _⟩ := hf p.1 hb
    obtain ⟨o, e', d⟩ := ho p.1 hb
    rw [e] at e'; cases e'
    exact ⟨e, f0, f1, f2, d⟩
theorem Inv.unpinned {pins pl : List (Addr × Obj)} {σ : St} {H : Hp} {s : Shared} (I : Inv X (pins ++ pl) σ H s) : Inv X pins σ H s := I.pins_of fun p hp => I.pin p (List.mem_append_right _ (List.mem_append_left _ hp))
theorem ps_for {iter : Expr} {body : List Stmt} {wi : TI} {g : TG} {tb : TS} {pos : Pos} (hp : PassesOwn (model X.prog X.w) X.A X.env X.xe) (hc : X.calm = true) (hi : PI X tg iter wi) (hg : PG X tg g) (hb : PSs X body tb)
    (hs : ∀ x, foldedSetIterable iter X.env x = pure x := by intro _; rfl) : PS X (.For tg iter body [] pos) (tFor wi g tb) := by
  intro pins s σ H D I h
  refine wpAny_For (thn (hi pins s σ H _ I h) fun v s1 h1 => thn h1 fun itv s2 h2 => ?_) hs
  obtain ⟨it, fp, tn, J, H2, e, I2, T, st2, f2, W, ⟨m0, w0⟩, turn⟩ := h2
  subst e
  have stat : ∀ {H' : Hp}, (∀ b ∈ fp, H' b = none) → ∀ b ∈ fp, FpOk X pins H' b := fun hn b hb => ⟨hn b hb, (f2 b hb).2⟩
  refine codeAny_forLoop_any (fun n s' => ∃ i σ' H', Inv X pins σ' H' s' ∧ tn i s'.heap ∧ (∀ b ∈ fp, H' b = none) ∧ W i n σ' H') ?_ m0 ⟨0, σ, H2, I2, st2, fun b hb => (f2 b hb).1, w0⟩
  rintro n s3 ⟨i, σ3, H3, I3, st3, fr3, w3⟩
  rcases turn i n σ3 H3 w3 with ⟨stop, qn⟩ | ⟨go, N, hN, step⟩
  · refine wpAny_passesOwn hp (thn (T.done X rfl rfl rfl hc i pins s3 σ3 H3 X.xe I3 (stat fr3) st3 stop) fun r s4 ⟨hr, I4⟩ => ?_)
    subst hr
    exact wpAny_execs_nil ⟨σ3, H3, I4, qn⟩
  · refine wpAny_passesOwn hp (thn (T.item X rfl rfl rfl hc i pins s3 σ3 H3 X.xe I3 (stat fr3) st3 go) fun r s4 ⟨u, hr, h4⟩ => ?_)
    subst hr
    refine wpAny_passesOwn hp (thn h4 fun _ s5 ⟨x, H5, I5, r5, y5, st5, fr5⟩ => ?_)
    have I5' := I5.pinned (stat fr5) (T.obj _ _ st5)
    refine wpAny_passesOwn hp (thn (hg _ s5 σ3 H5 x u _ I5' r5 (step x H5 y5)) fun _ s6 ⟨σ6, H6, I6, q6⟩ => ?_)
    refine wpAny_passesOwn hp (thn (hb _ s6 σ6 H6 _ I6 q6) fun f s7 q7 => ?_)
    have again : ∀ {σ7 : St} {H7 : Hp}, Inv X (pins ++ pinsAt fp s5.heap) σ7 H7 s7 → N σ7 H7 → ∃ m, m < n ∧ ∃ i σ' H', Inv X pins σ' H' s7 ∧ tn i s7.heap ∧ (∀ b ∈ fp, H' b = none) ∧ W i m σ' H' := fun {σ7 H7} I7 n7 => by
      obtain ⟨m', hm, w7⟩ := hN σ7 H7 n7
      refine ⟨m', hm, i + 1, σ7, H7, I7.unpinned, T.keep _ _ _ st5 fun b hb o e => (I7.pin (b, o) (List.mem_append_right _ (List.mem_append_right _ (mem_pinsAt hb e)))).1, fun b hb => ?_, w7⟩
      obtain ⟨o, e, d⟩ := T.obj _ _ st5 b hb
      exact (I7.pin (b, o) (List.mem_append_right _ (List.mem_append_right _ (mem_pinsAt hb e)))).2.1
    cases f with
    | next => obtain ⟨σ7, H7, I7, n7⟩ := q7; exact again I7 n7
    | cont => obtain ⟨σ7, H7, I7, n7⟩ := q7; exact again I7 n7
    | brk => obtain ⟨σ7, H7, I7, q7⟩ := q7; exact ⟨σ7, H7, I7.unpinned, q7⟩
    | ret v => obtain ⟨x7, σ7, H7, I7, r7, q7⟩ := q7; exact ⟨x7, σ7, H7, I7.unpinned, r7, q7⟩
end
theorem for_list {K : PySem.W.Frag} {a : Addr} {xs : List V} {g : TG} {tb : TS} {D : Ends} {σ : St} {H : Hp} (Pv : Nat → St → Hp → Prop) (h0 : Pv 0 σ H) (hl : ∀ i σ H, i ≤ xs.length → Pv i σ H → SqL K H a xs)
    (hs : ∀ i x σ H, xs[i]? = some x → Pv i σ H → g x σ H fun σ2 H2 => tb { D with nx := Pv (i + 1), ct := Pv (i + 1), bk := D.nx } σ2 H2) (hd : ∀ σ H, Pv xs.length σ H → D.nx σ H) :
    ∃ W : Nat → Nat → St → Hp → Prop, (∃ m, W 0 m σ H) ∧ ∀ i m σ H, W i m σ H →
      ((Itl K a).stop i H ∧ D.nx σ H) ∨ ((Itl K a).go i H ∧ ∃ N : St → Hp → Prop, (∀ σ' H', N σ' H' → ∃ m', m' < m ∧ W (i + 1) m' σ' H') ∧ ∀ x H', (Itl K a).yld i H x H' → g x σ H' fun σ2 H2 => tb { D with nx := N, ct := N, bk := D.nx } σ2 H2) := by
  refine ⟨fun i m σ H => m = xs.length - i ∧ i ≤ xs.length ∧ Pv i σ H, ⟨xs.length, by simp, Nat.zero_le _, h0⟩, ?_⟩
  rintro i m σ H ⟨rfl, hi, p⟩
  have q := hl i σ H hi p
  by_cases hlt : i < xs.length
  · refine .inr ⟨⟨xs, xs[i], q, by simp [hlt]⟩, Pv (i + 1), fun σ' H' p' => ⟨xs.length - (i + 1), by omega, rfl, hlt, p'⟩, fun x H' y => ?_⟩
    obtain ⟨e, y⟩ := y
    subst e
    exact hs i x σ _ (y xs q) p
  · have e : i = xs.length := by omega
    subst e
    exact .inl ⟨⟨xs, q, Nat.le_refl _⟩, hd σ H p⟩
theorem for_range {lo : Int} {n : Nat} {g : TG} {tb : TS} {D : Ends} {σ : St} {H : Hp} (Pv : Nat → St → Hp → Prop) (h0 : Pv 0 σ H)
    (hs : ∀ i σ H, i < n → Pv i σ H → g (.int (lo + i)) σ H fun σ2 H2 => tb { D with nx := Pv (i + 1), ct := Pv (i + 1), bk := D.nx } σ2 H2) (hd : ∀ σ H, Pv n σ H → D.nx σ H) :
    ∃ W : Nat → Nat → St → Hp → Prop, (∃ m, W 0 m σ H) ∧ ∀ i m σ H, W i m σ H →
      ((Itr lo n).stop i H ∧ D.nx σ H) ∨ ((Itr lo n).go i H ∧ ∃ N : St → Hp → Prop, (∀ σ' H', N σ' H' → ∃ m', m' < m ∧ W (i + 1) m' σ' H') ∧ ∀ x H', (Itr lo n).yld i H x H' → g x σ H' fun σ2 H2 => tb { D with nx := N, ct := N, bk := D.nx } σ2 H2) := by
  refine ⟨fun i m σ H => m = n - i ∧ i ≤ n ∧ Pv i σ H, ⟨n, by simp, Nat.zero_le _, h0⟩, ?_⟩
  rintro i m σ H ⟨rfl, hi, p⟩
  by_cases hlt : i < n
  · refine .inr ⟨hlt, Pv (i + 1), fun σ' H' p' => ⟨n - (i + 1), by omega, rfl, hlt, p'⟩, fun x H' y => ?_⟩
    obtain ⟨e, y⟩ := y
    subst e y
    exact hs i σ _ hlt p
  · have e : i = n := by omega
    subst e
    exact .inl ⟨Nat.le_refl _, hd σ H p⟩
end L2
namespace L2
open PySem PySem.Spec PyProof.Rows
abbrev R2 := V → V → Hp → VK → Prop
def OpR (X : Cx) (f : Value → Value → Sem Value) (r : R2) : Prop :=
  ∀ (pins : List (Addr × Obj)) (s : Shared) (σ : St) (H : Hp) (x y : V) (v u : Value) (Q : VK), Inv X pins σ H s → RelV x v → RelV y u → r x y H Q →
    wpAny (model X.prog X.w) X.A (f v u) (EP X pins σ Q) X.xe s
def UnR (X : Cx) (f : Value → Sem Value) (r : V → Hp → VK → Prop) : Prop :=
  ∀ (pins : List (Addr × Obj)) (s : Shared) (σ : St) (H : Hp) (x : V) (v : Value) (Q : VK), Inv X pins σ H s → RelV x v → r x H Q →
    wpAny (model X.prog X.w) X.A (f v) (EP X pins σ Q) X.xe s
def CallR (X : Cx) (f : Value) (r : List V → Hp → VK → Prop) : Prop :=
  ∀ (pins : List (Addr × Obj)) (s : Shared) (σ : St) (H : Hp) (xs : List V) (us : List Value) (Q : VK), Inv X pins σ H s → Vals xs us → r xs H Q →
    wpAny (model X.prog X.w) X.A (call f us) (EP X pins σ Q) X.xe s
def tOp (r : R2) (ta tb : TE) : TE := fun σ H Q => ta σ H fun x H1 => tb σ H1 fun y H2 => r x y H2 Q
def tUn (r : V → Hp → VK → Prop) (ta : TE) : TE := fun σ H Q => ta σ H fun x H1 => r x H1 Q
def rI (C : Int → Int → Prop) (g : Int → Int → V) : R2 := fun x y H Q => ∃ i j, x = .int i ∧ y = .int j ∧ C i j ∧ Q (g i j) H
def rI0 (g : Int → Int → V) : R2 := fun x y H Q => ∃ i j, x = .int i ∧ y = .int j ∧ Q (g i j) H
def rU (g : Int → V) : V → Hp → VK → Prop := fun x H Q => ∃ i, x = .int i ∧ Q (g i) H
section
variable {X : Cx} {a b c : Expr} {ta tb tc : TE} {pos : Pos}
theorem binT (ha : PE X a ta) (hb : PE X b tb) {pins : List (Addr × Obj)} {s : Shared} {σ : St} {H : Hp} {R : V → V → Hp → Prop} (I : Inv X pins σ H s)
    (h : ta σ H fun x H1 => tb σ H1 fun y H2 => R x y H2) {Q : Value → Shared → Prop} {f : Value → Value → Sem Value}
    (hf : ∀ v u s2 x y H2, Inv X pins σ H2 s2 → RelV x v → RelV y u → R x y H2 → wpAny (model X.prog X.w) X.A (f v u) Q X.xe s2) :
    wpAny (model X.prog X.w) X.A (eval a X.env) (fun v s₁ => wpAny (model X.prog X.w) X.A (eval b X.env) (fun u s₂ => wpAny (model X.prog X.w) X.A (f v u) Q X.xe s₂) X.xe s₁) X.xe s := by
  refine thn (ha pins s σ H _ I h) fun v s1 ⟨x, H1, I1, r1, q1⟩ => ?_
  refine thn (hb pins s1 σ H1 _ I1 q1) fun u s2 ⟨y, H2, I2, r2, q2⟩ => ?_
  exact hf v u s2 x y H2 I2 r1 r2 q2
theorem pe_op {op : Operator} {r : R2} (ho : OpR X (binaryOp op) r) (ha : PE X a ta) (hb : PE X b tb) : PE X (.BinOp a op b pos) (tOp r ta tb) := by
  intro pins s σ H Q I h
  exact wpAny_BinOp (binT ha hb I h fun v u s2 x y H2 I2 rx ry q => ho pins s2 σ H2 x y v u Q I2 rx ry q)
theorem pe_un {op : UnaryOp} {r : V → Hp → VK → Prop} (ho : UnR X (unaryOp op) r) (ha : PE X a ta) : PE X (.UnaryOp op a pos) (tUn r ta) := by
  intro pins s σ H Q I h
  exact UnaryOp_ (thn (ha pins s σ H _ I h) fun v s1 ⟨x, H1, I1, r1, q1⟩ => ho pins s1 σ H1 x v Q I1 r1 q1)
theorem opI {f : Value → Value → Sem Value} {C : Int → Int → Prop} {g : Int → Int → Int}
    (rule : ∀ (i j : Int) (t u : Tok) (s : Shared) (Q : Value → Shared → Prop) (E : Value → Shared → Prop), C i j → Q (.int (g i j) s.toks) { s with toks := s.toks + 1 } → wpAny (model X.prog X.w) X.A (f (.int i t) (.int j u)) Q E s) :
    OpR X f (rI C fun i j => .int (g i j)) := by
  intro pins s σ H x y v u Q I rx ry h
  obtain ⟨i, j, rfl, rfl, hc, q⟩ := h
  obtain ⟨t, rfl⟩ := rx
  obtain ⟨t', rfl⟩ := ry
  exact rule i j t t' s _ _ hc ⟨.int (g i j), H, I.tok _, ⟨_, rfl⟩, q⟩
theorem opI0 {f : Value → Value → Sem Value} {g : Int → Int → Int}
    (rule : ∀ (i j : Int) (t u : Tok) (s : Shared) (Q : Value → Shared → Prop) (E : Value → Shared → Prop), Q (.int (g i j) s.toks) { s with toks := s.toks + 1 } → wpAny (model X.prog X.w) X.A (f (.int i t) (.int j u)) Q E s) :
    OpR X f (rI0 fun i j => .int (g i j)) := by
  intro pins s σ H x y v u Q I rx ry h
  obtain ⟨i, j, rfl, rfl, q⟩ := h
  obtain ⟨t, rfl⟩ := rx
  obtain ⟨t', rfl⟩ := ry
  exact rule i j t t' s _ _ ⟨.int (g i j), H, I.tok _, ⟨_, rfl⟩, q⟩
theorem opB0 {f : Value → Value → Sem Value} {g : Int → Int → Bool}
    (rule : ∀ (i j : Int) (t u : Tok) (s : Shared) (Q : Value → Shared → Prop) (E : Value → Shared → Prop), Q (.bool (g i j)) s → wpAny (model X.prog X.w) X.A (f (.int i t) (.int j u)) Q E s) :
    OpR X f (rI0 fun i j => .bl (g i j)) := by
  intro pins s σ H x y v u Q I rx ry h
  obtain ⟨i, j, rfl, rfl, q⟩ := h
  obtain ⟨t, rfl⟩ := rx
  obtain ⟨t', rfl⟩ := ry
  exact rule i j t t' s _ _ ⟨.bl (g i j), H, I, rfl, q⟩
def CDiv (i j : Int) : Prop := 0 < j ∧ j < 1073741824
def CMul (i j : Int) : Prop := (-(2 ^ 64) < i ∧ i < 2 ^ 64) ∨ (-(2 ^ 64) < j ∧ j < 2 ^ 64)
theorem CMul.ok {i j : Int} (h : CMul i j) : IntMulOk i j := by
  rcases h with ⟨h1, h2⟩ | ⟨h1, h2⟩
  · exact .of_left (intBits_le_64 h1 h2)
  · exact .of_right (intBits_le_64 h1 h2)
theorem two_pow_nn (k : Nat) : (0 : Int) ≤ 2 ^ k := by
  rw [two_pow_cast]
  exact Int.natCast_nonneg _
theorem op_add : OpR X (binaryOp .Add) (rI0 fun i j => .int (i + j)) := opI0 fun _ _ _ _ _ _ _ q => add_int q
theorem op_sub : OpR X (binaryOp .Sub) (rI0 fun i j => .int (i - j)) := opI0 fun _ _ _ _ _ _ _ q => sub_int q
theorem op_mul : OpR X (binaryOp .Mult) (rI CMul fun i j => .int (i * j)) := opI fun _ _ _ _ _ _ _ hc q => mul_int q hc.ok
theorem op_fdiv : OpR X (binaryOp .FloorDiv) (rI CDiv fun i j => .int (i / j)) := opI fun i j _ _ _ _ _ hc q => by
  have h1 : (0 : Int) < j := hc.1
  have h2 : j < 1073741824 := hc.2
  exact floordiv_int (by omega) (by rw [Int.fdiv_eq_ediv_of_nonneg i (by omega)]; exact q) (.inl (PyProof.noPylong_small (by omega)))
theorem op_mod : OpR X (binaryOp .Mod) (rI (fun _ j => 0 < j) fun i j => .int (i % j)) := opI fun i j _ _ _ _ _ hc q => by
  have h1 : (0 : Int) < j := hc
  exact mod_int' (by omega) (by rw [Int.fmod_eq_emod_of_nonneg i (by omega)]; exact q)
theorem op_shr : OpR X (binaryOp .RShift) (rI (fun _ j => 0 ≤ j) fun i j => .int (i / 2 ^ j.toNat)) := opI fun i j _ _ _ _ _ hc q =>
  rshift_int hc (by rw [Int.fdiv_eq_ediv_of_nonneg i (two_pow_nn _)]; exact q)
theorem op_and : OpR X (binaryOp .BitAnd) (rI0 fun i j => .int (Builtin.bitAnd i j)) := opI0 fun _ _ _ _ _ _ _ q => and_int q
theorem unI {f : Value → Sem Value} {g : Int → Int}
    (rule : ∀ (i : Int) (t : Tok) (s : Shared) (Q : Value → Shared → Prop) (E : Value → Shared → Prop), Q (.int (g i) s.toks) { s with toks := s.toks + 1 } → wpAny (model X.prog X.w) X.A (f (.int i t)) Q E s) :
    UnR X f (rU fun i => .int (g i)) := by
  intro pins s σ H x v Q I rx h
  obtain ⟨i, rfl, q⟩ := h
  obtain ⟨t, rfl⟩ := rx
  exact rule i t s _ _ ⟨.int (g i), H, I.tok _, ⟨_, rfl⟩, q⟩
theorem un_neg : UnR X (unaryOp .USub) (rU fun i => .int (-i)) := unI fun _ _ _ _ _ q => neg_int q
end
def scal : V → V → Bool
  | .non, .non => true | .non, .int _ => true | .int _, .non => true | .non, .bl _ => true | .bl _, .non => true | .non, .str _ => true | .str _, .non => true
  | .int _, .int _ => true | .bl _, .bl _ => true | .str _, .str _ => true | .byt _, .byt _ => true
  | .int _, .str _ => true | .str _, .int _ => true | .bl _, .str _ => true | .str _, .bl _ => true
  | _, _ => false
def rEq : R2 := fun x y H Q => scal x y = true ∧ Q (.bl (decide (x = y))) H
def rNe : R2 := fun x y H Q => scal x y = true ∧ Q (.bl (!decide (x = y))) H
theorem dec_int {i j : Int} : decide (V.int i = V.int j) = (i == j) := by
  rw [Bool.eq_iff_iff]
  simp
theorem dec_bl {i j : Bool} : decide (V.bl i = V.bl j) = (i == j) := by
  rw [Bool.eq_iff_iff]
  simp
theorem dec_str {i j : Str} : decide (V.str i = V.str j) = (i == j) := by
  rw [Bool.eq_iff_iff]
  simp
theorem dec_byt {i j : Array UInt8} : decide (V.byt i = V.byt j) = (i.toList == j.toList) := by
  rw [Bool.eq_iff_iff]
  cases i
  cases j
  simp
section
variable {X : Cx} {a b c : Expr} {ta tb tc : TE} {pos : Pos}
theorem fin_bl {pins : List (Addr × Obj)} {σ : St} {H : Hp} {s : Shared} {Q : VK} {k k' : Bool} (I : Inv X pins σ H s) (q : Q (.bl k) H) (e : k = k') : EP X pins σ Q (.bool k') s := by
  subst e
  exact ⟨.bl k, H, I, rfl, q⟩
theorem op_eq : OpR X (compareOp .Eq) rEq := by
  intro pins s σ H x y v u Q I rx ry h
  obtain ⟨hs, q⟩ := h
  cases x with
  | non =>
    cases rx
    cases y with
    | non => cases ry; exact PySem.EqNone.eq_none_none (fin_bl I q (by simp))
    | bl j => cases ry; exact PySem.EqNone.eq_none_bool (fin_bl I q (by simp))
    | int j => obtain ⟨t', rfl⟩ := ry; exact PySem.EqNone.eq_none_int (fin_bl I q (by simp))
    | str j => obtain ⟨t', rfl⟩ := ry; exact PySem.EqNone.eq_none_str (fin_bl I q (by simp))
    | _ => exact absurd (show false = true from hs) Bool.false_ne_true
  | bl i =>
    cases rx
    cases y with
    | non => cases ry; exact PySem.EqNone.eq_bool_none (fin_bl I q (by simp))
    | bl j => cases ry; exact eq_bool (fin_bl I q dec_bl)
    | str j => obtain ⟨t', rfl⟩ := ry; exact PySem.EqMixed.eq_bool_str (fin_bl I q (by simp))
    | _ => exact absurd (show false = true from hs) Bool.false_ne_true
  | int i =>
    obtain ⟨t, rfl⟩ := rx
    cases y with
    | non => cases ry; exact PySem.EqNone.eq_int_none (fin_bl I q (by simp))
    | int j => obtain ⟨t', rfl⟩ := ry; exact eq_int (fin_bl I q dec_int)
    | str j => obtain ⟨t', rfl⟩ := ry; exact PySem.EqMixed.eq_int_str (fin_bl I q (by simp))
    | _ => exact absurd (show false = true from hs) Bool.false_ne_true
  | str i =>
    obtain ⟨t, rfl⟩ := rx
    cases y with
    | non => cases ry; exact PySem.EqNone.eq_str_none (fin_bl I q (by simp))
    | bl j => cases ry; exact PySem.EqMixed.eq_str_bool (fin_bl I q (by simp))
    | int j => obtain ⟨t', rfl⟩ := ry; exact PySem.EqMixed.eq_str_int (fin_bl I q (by simp))
    | str j => obtain ⟨t', rfl⟩ := ry; exact eq_str (fin_bl I q dec_str)
    | _ => exact absurd (show false = true from hs) Bool.false_ne_true
  | byt i =>
    obtain ⟨t, rfl⟩ := rx
    cases y with
    | byt j => obtain ⟨t', rfl⟩ := ry; exact PySem.W.eq_bytes (fin_bl I q dec_byt)
    | _ => exact absurd (show false = true from hs) Bool.false_ne_true
  | _ => cases y <;> exact absurd (show false = true from hs) Bool.false_ne_true
theorem op_ne : OpR X (compareOp .NotEq) rNe := by
  intro pins s σ H x y v u Q I rx ry h
  obtain ⟨hs, q⟩ := h
  cases x with
  | non =>
    cases rx
    cases y with
    | non => cases ry; exact PySem.EqNone.ne_none_none (fin_bl I q (by simp))
    | bl j => cases ry; exact PySem.EqNone.ne_none_bool (fin_bl I q (by simp))
    | int j => obtain ⟨t', rfl⟩ := ry; exact PySem.EqNone.ne_none_int (fin_bl I q (by simp))
    | str j => obtain ⟨t', rfl⟩ := ry; exact PySem.EqNone.ne_none_str (fin_bl I q (by simp))
    | _ => exact absurd (show false = true from hs) Bool.false_ne_true
  | bl i =>
    cases rx
    cases y with
    | non => cases ry; exact PySem.EqNone.ne_bool_none (fin_bl I q (by simp))
    | bl j => cases ry; exact ne_bool (fin_bl I q (congrArg not dec_bl))
    | str j => obtain ⟨t', rfl⟩ := ry; exact PySem.EqMixed.ne_bool_str (fin_bl I q (by simp))
    | _ => exact absurd (show false = true from hs) Bool.false_ne_true
  | int i =>
    obtain ⟨t, rfl⟩ := rx
    cases y with
    | non => cases ry; exact PySem.EqNone.ne_int_none (fin_bl I q (by simp))
    | int j => obtain ⟨t', rfl⟩ := ry; exact ne_int (fin_bl I q (congrArg not dec_int))
    | str j => obtain ⟨t', rfl⟩ := ry; exact PySem.EqMixed.ne_int_str (fin_bl I q (by simp))
    | _ => exact absurd (show false = true from hs) Bool.false_ne_true
  | str i =>
    obtain ⟨t, rfl⟩ := rx
    cases y with
    | non => cases ry; exact PySem.EqNone.ne_str_none (fin_bl I q (by simp))
    | bl j => cases ry; exact PySem.EqMixed.ne_str_bool (fin_bl I q (by simp))
    | int j => obtain ⟨t', rfl⟩ := ry; exact PySem.EqMixed.ne_str_int (fin_bl I q (by simp))
    | str j => obtain ⟨t', rfl⟩ := ry; exact ne_str (fin_bl I q (congrArg not dec_str))
    | _ => exact absurd (show false = true from hs) Bool.false_ne_true
  | byt i =>
    obtain ⟨t, rfl⟩ := rx
    cases y with
    | byt j => obtain ⟨t', rfl⟩ := ry; exact PySem.W.ne_bytes (fin_bl I q (congrArg not dec_byt))
    | _ => exact absurd (show false = true from hs) Bool.false_ne_true
  | _ => cases y <;> exact absurd (show false = true from hs) Bool.false_ne_true
theorem op_lt : OpR X (compareOp .Lt) (rI0 fun i j => .bl (decide (i < j))) := opB0 fun _ _ _ _ _ _ _ q => lt_int q
theorem op_le : OpR X (compareOp .LtE) (rI0 fun i j => .bl (decide (i ≤ j))) := opB0 fun _ _ _ _ _ _ _ q => le_int q
theorem op_gt : OpR X (compareOp .Gt) (rI0 fun i j => .bl (decide (j < i))) := opB0 fun _ _ _ _ _ _ _ q => gt_int q
theorem op_ge : OpR X (compareOp .GtE) (rI0 fun i j => .bl (decide (j ≤ i))) := opB0 fun _ _ _ _ _ _ _ q => ge_int q
theorem nomark (b : Expr) {op : CmpOp} (h : op ≠ .In := by decide) (h2 : op ≠ .NotIn := by decide) : behindInMarks op b = false := by
  have e1 : (op == CmpOp.In) = false := by cases op <;> first | rfl | exact absurd rfl h
  have e2 : (op == CmpOp.NotIn) = false := by cases op <;> first | rfl | exact absurd rfl h2
  cases b <;> simp [behindInMarks, e1, e2]
theorem pe_cmpR {op : CmpOp} {r : R2} (ho : OpR X (compareOp op) r) (ha : PE X a ta) (hb : PE X b tb) (hm : behindInMarks op b = false) : PE X (.Compare a [op] [b] pos) (tOp r ta tb) := by
  intro pins s σ H Q I h
  exact wpAny_Compare1 (binT ha hb I h fun v u s2 x y H2 I2 rx ry q => ho pins s2 σ H2 x y v u Q I2 rx ry q) hm
def tTest (t : TE) : TT := fun σ H Q => t σ H fun x H' => ∃ k, x = .bl k ∧ Q k H'
theorem pt_cmpR {op : CmpOp} {r : R2} (ho : OpR X (compareOp op) r) (ha : PE X a ta) (hb : PE X b tb) (hm : behindInMarks op b = false) : PT X (.Compare a [op] [b] pos) (tTest (tOp r ta tb)) := by
  intro pins s σ H Q I h
  refine wpAny_isTrue_Compare1 (thn (ha pins s σ H _ I h) fun v s1 ⟨x, H1, I1, r1, q1⟩ => thn (hb pins s1 σ H1 _ I1 q1) fun u s2 ⟨y, H2, I2, r2, q2⟩ =>
    thn (ho pins s2 σ H2 x y v u _ I2 r1 r2 q2) fun c s3 ⟨z, H3, I3, r3, k, e, q3⟩ => ?_) hm
  subst e
  cases r3
  exact wpAny_truthy_bool ⟨H3, I3, q3⟩
theorem line63 : (sizeLine : Nat) < 2 ^ 63 := by rw [sizeLine_eq]; decide
theorem vals1 {x : V} {us : List Value} (r : Vals [x] us) : ∃ u, us = [u] ∧ RelV x u := by
  cases r with
  | cons r1 r2 => cases r2; exact ⟨_, rfl, r1⟩
theorem vals2 {x y : V} {us : List Value} (r : Vals [x, y] us) : ∃ u w', us = [u, w'] ∧ RelV x u ∧ RelV y w' := by
  cases r with
  | cons r1 r2 =>
    cases r2 with
    | cons r3 r4 => cases r4; exact ⟨_, _, rfl, r1, r3⟩
theorem call_ord : CallR X (.builtin "ord") (fun xs H Q => ∃ x, xs = [.str x] ∧ x.length = 1 ∧ Q (.int (x.cps.getD 0 0 : Nat)) H) := by
  intro pins s σ H xs us Q I r h
  obtain ⟨x, rfl, hz, q⟩ := h
  obtain ⟨u, rfl, t, rfl⟩ := vals1 r
  exact ord_of_one hz ⟨.int _, H, I.tok _, ⟨_, rfl⟩, q⟩
end
end L2
namespace L2
open PySem PySem.Spec PyProof.Rows
structure ObjM (h : Heap) (x dx C : Addr) (mA : Str → Option Value) : Prop where
  obj : h.get? x = some (PySem.W.instObj C dx)
  ns : h.Ns1 dx mA
  ne : dx ≠ x
theorem lookIn_ns {h : Heap} {dx : Addr} {mA : Str → Option Value} (n : h.Ns1 dx mA) : ∃ od, h.get? dx = some od ∧ ∀ name, PySem.W.lookIn name od = some (mA name) := by
  obtain ⟨o, es, ep, ho, hd, hk, _, hm⟩ := n
  refine ⟨o, ho, fun name => ?_⟩
  have e := hm name
  unfold nsFind findBy at e
  rw [← Array.find?_toList] at e
  unfold PySem.W.lookIn
  rw [hd]
  dsimp only
  split
  · rename_i y q
    rw [q] at e
    exact congrArg some e
  · rename_i q
    rw [q] at e
    have a : es.toList.any (·.refKey) = false := by
      rw [List.any_eq_false]
      intro y hy
      obtain ⟨z, t, hkey⟩ := hk y (Array.mem_toList_iff.mp hy)
      simp [DictEntry.refKey, hkey]
    have a' : ¬ es.toList.any (·.refKey) = true := by rw [a]; exact Bool.false_ne_true
    rw [if_neg a']
    exact congrArg some e
theorem ObjM.look {h : Heap} {x dx C : Addr} {mA : Str → Option Value} (I : ObjM h x dx C mA) : ∃ od, PySem.W.InstAt h x (PySem.W.instObj C dx) C (some od) ∧ ∀ name, PySem.W.lookIn name od = some (mA name) :=
  let ⟨od, ho, hl⟩ := lookIn_ns I.ns
  ⟨od, ⟨I.obj, rfl, rfl, ho⟩, hl⟩
section
variable {prog : Program} {w : World} {A : Around} {E : Value → Shared → Prop} {s : Shared} {K : PySem.W.Frag} {x dx C f : Addr} {mA : Str → Option Value} {name : Str} {v : Value}
theorem get_map {expr : Bool} {Q : Value → Shared → Prop} (X : K.In s.heap) (I : ObjM s.heap x dx C mA) (hg : PySem.W.plainGet K C name = true) (hh : PySem.W.hasDictIn K C = true)
    (ha : PySem.W.findIn K (.ref C) name = some none) (hv : mA name = some v) (hv' : PySem.W.handedIn v = true) (h : Q v { s with toks := s.toks + 1 }) :
    wpAny (model prog w) A (getAttr (.ref x) name expr) Q E s := by
  obtain ⟨od, J, hl⟩ := I.look
  exact PySem.W.get_value X J (PySem.W.plainGet_of hg).1 (PySem.W.findObj_own hh ha rfl (by rw [hl, hv])) hv' h
theorem get_meth {pl : Sem Bool} {Q : Value × List Value → Shared → Prop} (X : K.In s.heap) (I : ObjM s.heap x dx C mA) (hg : PySem.W.plainGet K C name = true)
    (hf : PySem.W.findIn K (.ref C) name = some (some (.ref f))) (ht : PySem.W.isFn K (.ref f) = true) (hv : mA name = none) (h : Q (.ref f, [.ref x]) s) :
    wpAny (model prog w) A (getMethod (.ref x) name pl) Q E s := by
  obtain ⟨od, J, hl⟩ := I.look
  exact PySem.W.method_fn X J (PySem.W.plainGet_of hg).1 (PySem.W.plainGet_of hg).2 hf (beq_iff_eq.mp ht) (by show (PySem.W.lookIn name od).map (·.isSome) = some false; rw [hl, hv]; rfl) h
theorem set_map {ns : List Str} {Q : Unit → Shared → Prop} (X : K.In s.heap) (I : ObjM s.heap x dx C mA)
    (hs : PySem.W.findIn K (.ref C) "__setattr__" = some (some (.builtin "object.__setattr__"))) (hp : PySem.W.plainOver K C = true) (ht : PySem.W.takerIn K C name = some none) (hh : PySem.W.hasDictIn K C = true)
    (hw : PySem.Within mA ns) (hsz : ns.length ≤ sizeLine)
    (h : ∀ h', ObjM h' x dx C (fun y => if y = name then some v else mA y) → Heap.SameBut dx s.heap h' → Q () { s with heap := h', toks := s.toks + 2 }) :
    wpAny (model prog w) A (setAttr (.ref x) name v) Q E s := by
  obtain ⟨od, J, hl⟩ := I.look
  refine PySem.W.set_plain X J hs (PySem.W.osa_open (s := { s with toks := s.toks + 1 }) (r := none) X J hp ht fun b => ?_)
  obtain ⟨cd, hc, hd'⟩ := PySem.W.any_some hh
  have hx : s.heap.get? x = some ⟨.ref C, some dx, .plain, #[]⟩ := I.obj
  refine wpAny_bind (wpAny_pure (wpAny_bind (wpAny_bind (wpAny_loadPart hx (wpAny_bind (PySem.W.Looks.here (s := { s with toks := s.toks + 1 }) (PySem.W.looks_clsIn X hc) ?_))))))
  rw [hd']
  refine wpAny_pure (a := some dx) (wpAny_bind (wpAny_pure (wpAny_bind ?_)))
  refine wpAny_nsSet1 (s := { s with toks := s.toks + 1 }) I.ns fun h' hn2 hs2 => ?_
  obtain ⟨oD, esD, epD, hoD, hdD, hcD⟩ := hn2.count (PySem.Within.cons name v hw)
  refine wpAny_bind (wpAny_lookBehind hoD (by rw [hdD]; exact pastItsLine_dict (Nat.le_trans hcD (by rw [List.length_cons]; omega))) ?_)
  exact wpAny_pure (h _ ⟨(hs2.2 _ (Ne.symm I.ne)).trans I.obj, hn2, I.ne⟩ hs2)
theorem make_map {R : Result → Shared → Prop} {vs : List Value} {kw : List (Str × Value)} (X : K.In s.heap) (hm : PySem.W.makesIn K C = true)
    (hi : PySem.W.findIn K (.ref C) "__init__" = some (some (.ref f))) (hf : PySem.W.typeIn K (.ref f) = some (.type "function"))
    (h : codeAny (model prog w) (A.under (.builtin "type.__call__" ⟨.ref C :: vs, kw⟩)) (.call (.ref f) ⟨.ref (s.heap.objs.size + 1) :: vs, kw⟩) (PySem.W.InitBack (s.heap.objs.size + 1) R)
      { s with heap := (s.heap.push PySem.W.emptyDict).push (PySem.W.instObj C s.heap.objs.size) }) :
    codeAny (model prog w) A (.call (.ref C) ⟨vs, kw⟩) R s := by
  obtain ⟨hh, g, d, t, os⟩ := s
  exact PySem.W.make_core (PySem.W.makes_of X hm) (PySem.W.looks_findIn X hi) (fun self => PySem.W.bind_fn X self hf) (.inl rfl) h
end
def putF (f : Str) (v : V) : List (Str × V) → List (Str × V)
  | [] => [(f, v)]
  | (g, x) :: r => if g = f then (g, v) :: r else (g, x) :: putF f v r
theorem lookup_putF (f g : Str) (v : V) : ∀ fs : List (Str × V), (putF f v fs).lookup g = if g = f then some v else fs.lookup g
  | [] => by
    show List.lookup g [(f, v)] = _
    by_cases h : g = f
    · have hb : (g == f) = true := beq_iff_eq.mpr h
      simp only [List.lookup, hb, if_pos h]
    · have hb : (g == f) = false := beq_eq_false_iff_ne.mpr h
      simp only [List.lookup, hb, if_neg h]
  | (k, x) :: r => by
    have ih := lookup_putF f g v r
    rw [show putF f v ((k, x) :: r) = (if k = f then (k, v) :: r else (k, x) :: putF f v r) from rfl]
    by_cases hk : k = f
    · rw [if_pos hk]
      by_cases h : g = k
      · have hb : (g == k) = true := beq_iff_eq.mpr h
        simp only [List.lookup, hb, if_pos (h.trans hk)]
      · have hb : (g == k) = false := beq_eq_false_iff_ne.mpr h
        simp only [List.lookup, hb, if_neg (fun e : g = f => h (e.trans hk.symm))]
    · rw [if_neg hk]
      by_cases h : g = k
      · have hb : (g == k) = true := beq_iff_eq.mpr h
        simp only [List.lookup, hb, if_neg (fun e : g = f => hk (h.symm.trans e))]
      · have hb : (g == k) = false := beq_eq_false_iff_ne.mpr h
        simp only [List.lookup, hb]
        exact ih
theorem keys_putF (f : Str) (v : V) : ∀ fs : List (Str × V), f ∈ (putF f v fs).map (·.1) ∧ ∀ g, g ∈ fs.map (·.1) → g ∈ (putF f v fs).map (·.1)
  | [] => ⟨by simp [putF], fun g h => by simp at h⟩
  | (k, x) :: r => by
    obtain ⟨i1, i2⟩ := keys_putF f v r
    rw [show putF f v ((k, x) :: r) = (if k = f then (k, v) :: r else (k, x) :: putF f v r) from rfl]
    by_cases hk : k = f
    · rw [if_pos hk]
      subst hk
      exact ⟨by simp, fun g h => by simpa using h⟩
    · rw [if_neg hk]
      refine ⟨?_, fun g h => ?_⟩
      · rw [List.map_cons]
        exact List.mem_cons_of_mem _ i1
      · rw [List.map_cons] at h ⊢
        rcases List.mem_cons.mp h with e | e
        · exact List.mem_cons.mpr (.inl e)
        · exact List.mem_cons_of_mem _ (i2 g e)
theorem length_putF (f : Str) (v : V) : ∀ fs : List (Str × V), (putF f v fs).length ≤ fs.length + 1
  | [] => by simp [putF]
  | (k, x) :: r => by
    have ih := length_putF f v r
    rw [show putF f v ((k, x) :: r) = (if k = f then (k, v) :: r else (k, x) :: putF f v r) from rfl]
    by_cases hk : k = f
    · rw [if_pos hk, List.length_cons, List.length_cons]; omega
    · rw [if_neg hk, List.length_cons, List.length_cons]; omega
theorem RelO.some_of {v : V} {o : Option Value} (r : RelO (some v) o) : ∃ u, o = some u ∧ RelV v u := by
  cases o with
  | none => exact (show False from r).elim
  | some u => exact ⟨u, rfl, r⟩
theorem RelO.none_of {o : Option Value} (r : RelO none o) : o = none := by
  cases o with
  | none => rfl
  | some u => exact (show False from r).elim
theorem handed_of {v : V} {u : Value} (r : RelV v u) : PySem.W.handedIn u = true := by
  cases v with
  | non => cases (show u = Value.none from r); rfl
  | bl b => cases (show u = Value.bool b from r); rfl
  | int i => obtain ⟨t, e⟩ := (show ∃ t, u = Value.int i t from r); cases e; rfl
  | str x => obtain ⟨t, e⟩ := (show ∃ t, u = Value.str x t from r); cases e; rfl
  | byt b => obtain ⟨t, e⟩ := (show ∃ t, u = Value.bytes b t from r); cases e; rfl
  | flt b => obtain ⟨t, e⟩ := (show ∃ t, u = Value.float b t from r); cases e; rfl
  | ref a => cases (show u = Value.ref a from r); rfl
  | ty n => cases (show u = Value.type n from r); rfl
section
variable {P : Program} {w : World} {H H' : Hp} {h h' : Heap} {a C dx : Addr} {fs fs' : List (Str × V)}
theorem ins_get (hok : HOk P w H h) (e : H a = some (.ins C dx fs)) : ∃ mA, ObjM h a dx C mA ∧ (∀ f, RelO (fs.lookup f) (mA f)) ∧ PySem.Within mA (fs.map (·.1)) ∧ fs.length ≤ 1000 ∧ H dx = some (.own a) := by
  obtain ⟨d, z, ne, ob, mA, n, r, q⟩ := (show ObjOk P w H h a (.ins C dx fs) from hok a _ e)
  exact ⟨mA, ⟨ob, n, ne⟩, r, q, z, d⟩
end
structure Cls (K : PySem.W.Frag) (C : Addr) : Prop where
  pg : PySem.W.plainGet K C Str.empty = true
  hd : PySem.W.hasDictIn K C = true
  po : PySem.W.plainOver K C = true
  sa : PySem.W.findIn K (.ref C) "__setattr__" = some (some (.builtin "object.__setattr__"))
theorem Cls.get {K : PySem.W.Frag} {C : Addr} (c : Cls K C) (f : Str) : PySem.W.plainGet K C f = true := c.pg
def NoAttr (K : PySem.W.Frag) (C : Addr) (f : Str) : Prop := PySem.W.findIn K (.ref C) f = some none
theorem NoAttr.taker {K : PySem.W.Frag} {C : Addr} {f : Str} (n : NoAttr K C f) : PySem.W.takerIn K C f = some none := by
  unfold PySem.W.takerIn
  rw [show PySem.W.findIn K (.ref C) f = some none from n]
  rfl
structure Meth (K : PySem.W.Frag) (C : Addr) (m : Str) (f : Addr) : Prop where
  at_ : PySem.W.findIn K (.ref C) m = some (some (.ref f))
  fn : PySem.W.isFn K (.ref f) = true
  kp : PySem.W.keepIn K (.ref f) = true
section
variable {X : Cx} {pins : List (Addr × Obj)} {σ : St} {H : Hp} {s : Shared} {a C dx : Addr} {fs : List (Str × V)} {f : Str} {v : V} {A : Around} {E : Value → Shared → Prop}
theorem getattr_ok {b : Bool} {Q : Value → Shared → Prop} (I : Inv X pins σ H s) (e : H a = some (.ins C dx fs)) (c : Cls X.K C) (n : NoAttr X.K C f) (l : fs.lookup f = some v)
    (h : ∀ u s', Inv X pins σ H s' → RelV v u → Q u s') : wpAny (model X.prog X.w) A (getAttr (.ref a) f b) Q E s := by
  obtain ⟨mA, O, r, _, _, _⟩ := ins_get I.hok e
  obtain ⟨u, hu, ru⟩ := RelO.some_of (v := v) (o := mA f) (by rw [← l]; exact r f)
  exact get_map I.kIn O (c.get f) c.hd n hu (handed_of ru) (h u _ (I.tok _) ru)
theorem getmeth_ok {m : Str} {g : Addr} {pl : Sem Bool} {Q : Value × List Value → Shared → Prop} (I : Inv X pins σ H s) (e : H a = some (.ins C dx fs)) (c : Cls X.K C) (k : Meth X.K C m g) (l : fs.lookup m = none)
    (h : Q (.ref g, [.ref a]) s) : wpAny (model X.prog X.w) A (getMethod (.ref a) m pl) Q E s := by
  obtain ⟨mA, O, r, _, _, _⟩ := ins_get I.hok e
  have hn : mA m = none := RelO.none_of (by rw [← l]; exact r m)
  exact get_meth I.kIn O (c.get m) k.at_ k.fn hn h
theorem setattr_ok {y : V} {u : Value} {Q : Unit → Shared → Prop} (I : Inv X pins σ H s) (e : H a = some (.ins C dx fs)) (c : Cls X.K C) (n : NoAttr X.K C f) (hl : fs.length < 1000) (ry : RelV y u)
    (h : ∀ s', Inv X pins σ (upd H a (.ins C dx (putF f y fs))) s' → Q () s') : wpAny (model X.prog X.w) A (setAttr (.ref a) f u) Q E s := by
  obtain ⟨mA, O, r, wi, _, ho⟩ := ins_get I.hok e
  have hz : (fs.map (·.1)).length ≤ sizeLine := by rw [List.length_map, sizeLine_eq]; omega
  refine set_map I.kIn O c.sa c.po n.taker c.hd wi hz fun h' O' sb => h _ ?_
  have hd : ∃ o, h'.get? dx = some o := let ⟨o, _, _, e', _⟩ := O'.ns; ⟨o, e'⟩
  refine I.write (x := a) (e := dx) (by rw [e]; exact True.intro) (.inr ho) (fun b q hb z => (sb.2 b hb).trans z) hd ?_
  refine ⟨by rw [upd_ne O.ne]; exact ho, ?_, O.ne, O'.obj, _, O'.ns, fun g => ?_, fun g hg => ?_⟩
  · have := length_putF f y fs; omega
  · show RelO ((putF f y fs).lookup g) (if g = f then some u else mA g)
    rw [lookup_putF]
    by_cases q : g = f
    · rw [if_pos q, if_pos q]; exact ry
    · rw [if_neg q, if_neg q]; exact r g
  · by_cases q : g = f
    · rw [q]; exact (keys_putF f y fs).1
    · refine (keys_putF f y fs).2 g (wi g fun z => hg ?_)
      show (if g = f then some u else mA g) = none
      rw [if_neg q]; exact z
theorem Inv.made (I : Inv X pins σ H s) : Inv X pins σ (upd (upd H s.heap.objs.size (.own (s.heap.objs.size + 1))) (s.heap.objs.size + 1) (.ins C s.heap.objs.size []))
    { s with heap := (s.heap.push PySem.W.emptyDict).push (PySem.W.instObj C s.heap.objs.size) } := by
  have e1 : (s.heap.push PySem.W.emptyDict).get? s.heap.objs.size = some PySem.W.emptyDict := Heap.get?_push_size s.heap rfl
  have e2 : ((s.heap.push PySem.W.emptyDict).push (PySem.W.instObj C s.heap.objs.size)).get? (s.heap.objs.size + 1) = some (PySem.W.instObj C s.heap.objs.size) := by
    have := Heap.get?_push_size (s.heap.push PySem.W.emptyDict) (o := PySem.W.instObj C s.heap.objs.size) rfl
    rwa [Heap.size_push] at this
  have e3 : (s.heap.push PySem.W.emptyDict).Ns s.heap.objs.size (fun _ => none) := ⟨PySem.W.emptyDict, #[], _, e1, rfl, (fun e he => absurd he (by simp)), fun _ => rfl⟩
  have I1 := I.laid (a := s.heap.objs.size) (o := .own (s.heap.objs.size + 1)) (h' := s.heap.push PySem.W.emptyDict) (t' := s.toks) (fun b u q => Heap.get?_push_of_some _ q) (Nat.le_refl _) ⟨_, e1⟩
  refine I1.laid (a := s.heap.objs.size + 1) (o := .ins C s.heap.objs.size []) (t' := s.toks) (fun b u q => Heap.get?_push_of_some _ q) (Nat.le_of_eq (Heap.size_push _ _)) ?_
  have ne : s.heap.objs.size ≠ s.heap.objs.size + 1 := Nat.ne_of_lt (Nat.lt_succ_self _)
  refine ⟨by rw [upd_ne ne, upd_same], Nat.zero_le _, ne, e2, fun _ => none, (Heap.Ns1.of_empty e3).at fun o q => Heap.get?_push_of_some _ q, fun _ => True.intro, fun y hy => absurd rfl hy⟩
theorem attr_of {prog : Program} {w : World} {env : Env} {e : Expr} {f : Str} {pos : Pos} {s : Shared} {Q : Value → Shared → Prop} (hb : attributeBase e f env (eval e env) = eval e env)
    (h : wpAny (model prog w) A (eval e env) (fun o s₁ => wpAny (model prog w) A (getAttr o f true) Q E s₁) E s) : wpAny (model prog w) A (eval (.Attribute e f pos) env) Q E s :=
  Attribute_any_ h (by rw [arm_eval_Attribute, hb])
end
def tFld (K : PySem.W.Frag) (ta : TE) (f : Str) : TE := fun σ H Q => ta σ H fun x H1 => ∃ a C dx fs v, x = .ref a ∧ H1 a = some (.ins C dx fs) ∧ Cls K C ∧ NoAttr K C f ∧ fs.lookup f = some v ∧ Q v H1
def sFld (K : PySem.W.Frag) (ta tv : TE) (f : Str) : TS := fun D σ H => tv σ H fun y H1 => ta σ H1 fun x H2 => ∃ a C dx fs, x = .ref a ∧ H2 a = some (.ins C dx fs) ∧ Cls K C ∧ NoAttr K C f ∧ fs.length < 1000 ∧
  D.nx σ (upd H2 a (.ins C dx (putF f y fs)))
def InOp (X : Cx) (op : Operator) (rd : V → V → Hp → VK → Prop) : Prop :=
  ∀ (pins : List (Addr × Obj)) (s : Shared) (σ : St) (H : Hp) (x y : V) (u v : Value) (Q : VK), Inv X pins σ H s → RelV x u → RelV y v → rd x y H Q → wpAny (model X.prog X.w) X.A (inplaceOp op u v) (EP X pins σ Q) X.xe s
def sFldAug (K : PySem.W.Frag) (ta tv : TE) (rd : V → V → Hp → VK → Prop) (f : Str) : TS := fun D σ H => ta σ H fun x H1 => ∃ a C dx fs v, x = .ref a ∧ H1 a = some (.ins C dx fs) ∧ Cls K C ∧ NoAttr K C f ∧ fs.lookup f = some v ∧
  tv σ H1 fun y H2 => rd v y H2 fun z H3 => ∃ dx' fs', H3 a = some (.ins C dx' fs') ∧ fs'.length < 1000 ∧ D.nx σ (upd H3 a (.ins C dx' (putF f z fs')))
section
variable {X : Cx} {o e value : Expr} {f : Str} {pos pos' tpos : Pos} {ta tv : TE}
theorem pe_fld (he : PE X e ta) (hb : attributeBase e f X.env (eval e X.env) = eval e X.env) : PE X (.Attribute e f pos) (tFld X.K ta f) := by
  intro pins s σ H Q I h
  refine attr_of hb (thn (he pins s σ H _ I h) fun u s1 ⟨x, H1, I1, rx, a, C, dx, fs, v, ex, ea, c, n, l, q⟩ => ?_)
  subst ex
  obtain rfl : u = Value.ref a := rx
  exact getattr_ok I1 ea c n l fun u' s2 I2 ru => ⟨v, H1, I2, ru, q⟩
theorem ps_fld (ha : PE X o ta) (hv : PE X value tv) (hs : swapsWith value (some (.Attribute o f pos')) pos.line X.env = pure false) : PS X (.Assign [.Attribute o f pos'] value pos) (sFld X.K ta tv f) := by
  intro pins s σ H D I h
  refine plainObj_wpAny_Assign_Attribute (thn (hv pins s σ H _ I h) fun u s1 ⟨y, H1, I1, ry, q⟩ => thn (ha pins s1 σ H1 _ I1 q) fun ov s2 ⟨x, H2, I2, rx, a, C, dx, fs, ex, ea, c, n, l, q2⟩ => ?_) hs
  subst ex
  obtain rfl : ov = Value.ref a := rx
  exact setattr_ok I2 ea c n l ry fun s3 I3 => ⟨σ, _, I3, q2⟩
theorem ps_fldaug {op : Operator} {rd : V → V → Hp → VK → Prop} (ha : PE X o ta) (hv : PE X value tv) (hop : InOp X op rd) : PS X (.AugAssign (.Attribute o f tpos) op value pos) (sFldAug X.K ta tv rd f) := by
  intro pins s σ H D I h
  refine wpAny_AugAssign_AttributeAny (thn (ha pins s σ H _ I h) fun ov s1 ⟨x, H1, I1, rx, a, C, dx, fs, v, ex, ea, c, n, l, q⟩ => ?_)
  subst ex
  obtain rfl : ov = Value.ref a := rx
  refine getattr_ok I1 ea c n l fun u s2 I2 ru => thn (hv pins s2 σ H1 _ I2 q) fun w3 s3 ⟨y, H2, I3, ry, q3⟩ => thn (hop pins s3 σ H2 v y u w3 _ I3 ru ry q3) fun w4 s4 ⟨z, H3, I4, rz, dx', fs', ea', l', q4⟩ => ?_
  exact setattr_ok I4 ea' c n l' rz fun s5 I5 => ⟨σ, _, I5, q4⟩
def rAdd : V → V → Hp → VK → Prop := fun x y H Q => ∃ i j, x = .int i ∧ y = .int j ∧ Q (.int (i + j)) H
theorem in_add : InOp X .Add rAdd := by
  rintro pins s σ H x y u v Q I rx ry ⟨i, j, rfl, rfl, q⟩
  obtain ⟨t, rfl⟩ := (show ∃ t, u = Value.int i t from rx)
  obtain ⟨t', rfl⟩ := (show ∃ t', v = Value.int j t' from ry)
  exact PyProof.Rows.iadd_int ⟨.int (i + j), H, I.tok _, ⟨_, rfl⟩, q⟩
theorem methcall_of {pl : Sem Bool} {m : Str} {apos : Pos} {args : List Expr} {pins : List (Addr × Obj)} {s : Shared} {σ : St} {H : Hp} {Q : Value → Shared → Prop} {te : TE} (he : PE X e te) (I : Inv X pins σ H s)
    (h : te σ H fun x H1 => ∃ a C dx fs g, x = .ref a ∧ H1 a = some (.ins C dx fs) ∧ Cls X.K C ∧ Meth X.K C m g ∧ fs.lookup m = none ∧
      ∀ s1, Inv X pins σ H1 s1 → wpAny (model X.prog X.w) X.A (callWith pos (.ref g) [.ref a] (backTo pos (starEach args X.env)) (backToKw pos (keywordEach [] X.env))) Q X.xe s1)
    (ht : eval (.Call (.Attribute e m apos) args [] pos) X.env = (do
      let ov ← eval e X.env
      standAt apos.atName
      let (f, first) ← holding [ov] (getMethod ov m pl)
      callWith pos f first (backTo pos (starEach args X.env)) (backToKw pos (keywordEach [] X.env)))) :
    wpAny (model X.prog X.w) X.A (eval (.Call (.Attribute e m apos) args [] pos) X.env) Q X.xe s := by
  refine PySem.W.methodCall_KW (pl := pl) (thn (he pins s σ H _ I h) fun u s1 ⟨x, H1, I1, rx, a, C, dx, fs, g, ex, ea, c, k, l, q⟩ => ?_) ht
  subst ex
  obtain rfl : u = Value.ref a := rx
  exact getmeth_ok I1 ea c k l (q s1 I1)
end
end L2
namespace L2
open PySem PySem.Spec PyProof.Rows
structure Room (k : Nat) (A : Around) : Prop where
  hd : A.handled = none
  dp : A.depth + 3 * k + 5 < recursionLimit
  un : A.units + 16 * k + 200 < cLine
theorem Room.mono {j k : Nat} {A : Around} (r : Room k A) (h : j ≤ k) : Room j A := ⟨r.hd, by have := r.dp; omega, by have := r.un; omega⟩
theorem Room.deeper {k : Nat} {A : Around} (r : Room (k + 1) A) (env : Env) : Room k (A.deeper env) :=
  ⟨r.hd, by have := r.dp; show A.depth + 1 + 3 * k + 5 < _; omega, by have := r.un; show A.units + 3 + 16 * k + 200 < _; omega⟩
theorem make_depth {A : Around} {C : Addr} {us : List Value} {kw : List (Str × Value)} : (A.under (.builtin "type.__call__" ⟨.ref C :: us, kw⟩)).depth = A.depth + 1 := by
  first | rfl | simp [Around.under, Code.weight, Code.isCreation, Code.isGuard, Code.isCaller, Code.frames, Code.isFrame, guardIds]
theorem make_units {A : Around} {C : Addr} {us : List Value} {kw : List (Str × Value)} : (A.under (.builtin "type.__call__" ⟨.ref C :: us, kw⟩)).units = A.units + 1 := by
  first | rfl | simp [Around.under, Code.cUnits, Code.frames, Code.isFrame]
theorem Room.make {k : Nat} {A : Around} (r : Room (k + 1) A) (C : Addr) (us : List Value) (kw : List (Str × Value)) : Room k (A.under (.builtin "type.__call__" ⟨.ref C :: us, kw⟩)) :=
  ⟨r.hd, by have := r.dp; rw [make_depth]; omega, by have := r.un; rw [make_units]; omega⟩
theorem Room.depth {k : Nat} {A : Around} (r : Room k A) : A.depth < recursionLimit := by have := r.dp; omega
theorem Room.units {k : Nat} {A : Around} (r : Room k A) : A.units + 64 < cLine := by have := r.un; omega
def tNil : TA := fun _ H Q => Q [] H
def tCons (ta : TE) (tr : TA) : TA := fun σ H Q => ta σ H fun x H1 => tr σ H1 fun xs H2 => Q (x :: xs) H2
section
variable {X : Cx} {e : Expr} {es : List Expr} {te : TE} {t : TA} {pos : Pos}
theorem pa_nil : PA X [] tNil := fun _ _ _ _ H Q I h => Calls.spliced_nil ⟨[], H, I, .nil, h⟩
theorem pa_cons (ha : PE X e te) (hr : PA X es t) (hs : starEach (e :: es) X.env = (false, eval e X.env) :: starEach es X.env := by rfl) : PA X (e :: es) (tCons te t) := by
  intro pos pins s σ H Q I h
  rw [hs]
  show wpAny _ _ (spliced ((false, eval e X.env) :: backTo pos (starEach es X.env))) _ _ s
  refine Calls.spliced_cons (thn (ha pins s σ H _ I h) fun u s1 ⟨x, H1, I1, r1, q1⟩ => ?_)
  exact thn (hr pos pins s1 σ H1 _ I1 q1) fun us s2 ⟨xs, H2, I2, r2, q2⟩ => ⟨x :: xs, H2, I2, .cons r1 r2, q2⟩
def tTup (t : TA) : TE := fun σ H Q => t σ H fun xs H1 => xs.length ≤ sizeLine ∧ ∀ p, H1 p = none → Q (.ref p) (upd H1 p (.tup xs))
def tLst (t : TA) : TE := fun σ H Q => t σ H fun xs H1 => xs.length ≤ sizeLine ∧ ∀ p, H1 p = none → Q (.ref p) (upd H1 p (.lst xs))
theorem pe_tup {x1} (h : PA X es t) : PE X (.Tuple es x1 pos) (tTup t) := by
  intro pins s σ H Q I hq
  refine wpAny_Tuple_spliced (thn (h pos pins s σ H _ I hq) fun us s1 ⟨xs, H1, I1, r, z, q⟩ => ⟨by rw [← r.length]; exact z, ?_⟩)
  have hf : H1 s1.heap.objs.size = none := I1.hok.fresh (Nat.le_refl _)
  refine ⟨.ref s1.heap.objs.size, upd H1 s1.heap.objs.size (.tup xs), I1.laid (t' := s1.toks) (fun b u e => Heap.get?_push_of_some _ e) (Nat.le_refl _) ?_, rfl, q _ hf⟩
  exact ⟨z, us, r, ⟨_, Heap.get?_push_size _ rfl, rfl, _, rfl⟩⟩
theorem pe_lst (h : PA X es t) : PE X (.List es pos) (tLst t) := by
  intro pins s σ H Q I hq
  refine wpAny_List_spliced (thn (h pos pins s σ H _ I hq) fun us s1 ⟨xs, H1, I1, r, z, q⟩ => ⟨by rw [← r.length]; exact z, ?_⟩)
  have hf : H1 s1.heap.objs.size = none := I1.hok.fresh (Nat.le_refl _)
  refine ⟨.ref s1.heap.objs.size, upd H1 s1.heap.objs.size (.lst xs), I1.laid (t' := s1.toks) (fun b u e => Heap.get?_push_of_some _ e) (Nat.le_refl _) ?_, rfl, q _ hf⟩
  exact ⟨z, us, 0, r, Heap.get?_push_size _ rfl⟩
end
abbrev Sp := List V → Hp → VK → XK → Prop
abbrev CXT := List Env → Hp → Shared → XK → Value → Shared → Prop
structure Env0 (P : Program) (w : World) (K : PySem.W.Frag) (mg : Str → Option Value) (base : Heap) (A : Around) (outer : List Env) (s : Shared) (H : Hp) : Prop where
  frames : A.frames = some outer
  mod : Mod K mg base
  bs : ∀ b o, base.get? b = some o → s.heap.get? b = some o ∧ H b = none
  bsz : base.objs.size ≤ s.heap.objs.size
  funs : s.heap.FunFrames base outer
  frf : ∀ b ∈ frs outer, H b = none
  hok : HOk P w H s.heap
  bare : AllBare s.gens
def CE (outer : List Env) (P : Program) (w : World) (H : Hp) (s : Shared) (Q : VK) (u : Value) (s' : Shared) : Prop :=
  ∃ v H', s'.os = s.os ∧ AllBare s'.gens ∧ Un (frs outer) [] H H' s.heap s'.heap ∧ HOk P w H' s'.heap ∧ RelV v u ∧ Q v H'
def CR (CX : CXT) (outer : List Env) (P : Program) (w : World) (H : Hp) (s : Shared) (Q : VK) (E : XK) (r : Result) (s' : Shared) : Prop :=
  match r with
  | .ok (.ret u) => CE outer P w H s Q u s'
  | .ok _ => False
  | .error e => CX outer H s E e s'
structure FnOk (P : Program) (w : World) (K : PySem.W.Frag) (mg : Str → Option Value) (base : Heap) (CX : CXT) (k : Nat) (f : Addr) (fd : FuncData) (ps : List Str) (sp : Sp) : Prop where
  len : ∀ vs H Q E, sp vs H Q E → vs.length = ps.length
  run : ∀ (A : Around) (outer : List Env) (s : Shared) (H : Hp) (args : Args) (us : List Value) (vs : List V) (Q : VK) (E : XK), Room k A → Env0 P w K mg base A outer s H → BindsTo s fd args (ps.zip us) → Vals vs us → sp vs H Q E →
    codeAny (model P w) A (.call (.ref f) args) (CR CX outer P w H s Q E) s
theorem Env0.make {P : Program} {w : World} {K : PySem.W.Frag} {mg : Str → Option Value} {base : Heap} {A : Around} {outer : List Env} {s : Shared} {H : Hp} (e : Env0 P w K mg base A outer s H) (C : Addr) (us : List Value) (kw : List (Str × Value)) :
    Env0 P w K mg base (A.under (.builtin "type.__call__" ⟨.ref C :: us, kw⟩)) outer s H := ⟨by first | exact e.frames | (simpa [Around.under, Code.envs, Code.isFrame, pushEnvs] using e.frames), e.mod, e.bs, e.bsz, e.funs, e.frf, e.hok, e.bare⟩
section
variable {X : Cx} {pins : List (Addr × Obj)} {σ : St} {H : Hp} {s s' : Shared}
theorem Inv.env0 (I : Inv X pins σ H s) : Env0 X.prog X.w X.K X.mg X.base X.A X.stack s H :=
  ⟨I.ok.frames, I.ok.mod, I.bs, Nat.le_trans I.ok.bsz I.sz, I.stack, I.stkFree, I.hok, I.bare⟩
theorem Inv.after {Q : VK} {u : Value} (I : Inv X pins σ H s) (h : CE X.stack X.prog X.w H s Q u s') : EP X pins σ Q u s' := by
  obtain ⟨v, H', os, bare, un, hok, r, q⟩ := h
  obtain ⟨hh, g, d, t, os'⟩ := s'
  obtain rfl : os' = s.os := os
  exact ⟨v, H', I.call (h' := hh) (g' := g) (d' := d) (t' := t) (ch := []) un hok bare (fun b z => absurd z (by simp)), r, q⟩
end
def tCall (sp : Sp) (dvs : List V) (E : XK) (t : TA) : TE := fun σ H Q => t σ H fun vs H1 => sp (vs ++ dvs) H1 Q E
def tMeth (C : Addr) (m : Str) (sp : Sp) (dvs : List V) (E : XK) (ta : TE) (t : TA) : TE := fun σ H Q => ta σ H fun x H1 => ∃ a dx fs, x = .ref a ∧ H1 a = some (.ins C dx fs) ∧ fs.lookup m = none ∧
  t σ H1 fun vs H2 => sp (x :: (vs ++ dvs)) H2 Q E
def tMake (C : Addr) (sp : Sp) (dvs : List V) (E : XK) (t : TA) : TE := fun σ H Q => t σ H fun vs H1 => ∀ x dx, H1 x = none → H1 dx = none → dx ≠ x →
  sp (.ref x :: (vs ++ dvs)) (upd (upd H1 dx (.own x)) x (.ins C dx [])) (fun v H2 => v = .non ∧ Q (.ref x) H2) E
def Binds (K : PySem.W.Frag) (fd : FuncData) (ps : List Str) (ds : List Value) : Prop :=
  ∀ (s : Shared) (us : List Value), K.In s.heap → (us ++ ds).length = ps.length → BindsTo s fd ⟨us, []⟩ (ps.zip (us ++ ds))
theorem Binds.all {K : PySem.W.Frag} {fd : FuncData} {ps : List Str} (h : ∀ us : List Value, us.length = ps.length → bindArgs fd ⟨us, []⟩ = pure (ps.zip us)) : Binds K fd ps [] := fun s us _ hl => by
  rw [List.append_nil] at hl ⊢
  exact .of_eq (h us hl)
def Passes (CX : CXT) (X : Cx) (E : XK) : Prop := ∀ (pins : List (Addr × Obj)) (σ : St) (H : Hp) (s : Shared) (e : Value) (s' : Shared), Inv X pins σ H s → CX X.stack H s E e s' → X.xe e s'
section
variable {X : Cx} {CX : CXT} {k : Nat} {f C : Addr} {fd : FuncData} {ps : List Str} {sp : Sp} {dvs : List V} {ds : List Value} {E : XK} {x m : Str} {p pos apos : Pos} {e o : Expr} {es : List Expr} {ta : TE} {t : TA}
theorem run_fn {pins : List (Addr × Obj)} {σ : St} {H : Hp} {s : Shared} {Q : VK} {us : List Value} {vs : List V} (F : FnOk X.prog X.w X.K X.mg X.base CX k f fd ps sp) (hr : Room k X.A) (hb : Binds X.K fd ps ds) (hd : Vals dvs ds) (hx : Passes CX X E)
    (I : Inv X pins σ H s) (r : Vals vs us) (h : sp (vs ++ dvs) H Q E) : wpAny (model X.prog X.w) X.A (call (.ref f) us) (EP X pins σ Q) X.xe s := by
  have r2 : Vals (vs ++ dvs) (us ++ ds) := r.append hd
  have hl : (us ++ ds).length = ps.length := by rw [← r2.length]; exact F.len _ _ _ _ h
  refine wpAny_call (codeAny_mono (F.run X.A X.stack s H ⟨us, []⟩ (us ++ ds) (vs ++ dvs) Q E hr I.env0 (hb s us I.kIn hl) r2 h) fun r s' hq => ?_)
  cases r with
  | error e => exact hx pins σ H s e s' I hq
  | ok fl =>
    cases fl with
    | ret u => exact I.after hq
    | next => exact False.elim hq
    | brk => exact False.elim hq
    | cont => exact False.elim hq
theorem pe_call (F : FnOk X.prog X.w X.K X.mg X.base CX k f fd ps sp) (hr : Room k X.A) (hg : Gl X x) (hm : X.mg x = some (.ref f)) (hk : PySem.W.keepIn X.K (.ref f) = true) (hb : Binds X.K fd ps ds) (hd : Vals dvs ds) (hx : Passes CX X E)
    (ha : PA X (e :: es) t) (hdb : (x == ("__debug__" : Str)) = false := by decide) (he : starEach (e :: es) X.env = (false, eval e X.env) :: starEach es X.env := by rfl) (hpl : (backTo pos (starEach es X.env)).any (·.1) = false := by rfl) :
    PE X (.Call (.Name x p) (e :: es) [] pos) (tCall sp dvs E t) := by
  intro pins s σ H Q I h
  refine wpAny_Call_Name_kw (ld_glob I hg hm ?_ hdb)
  refine PySem.W.callWith_K (h₀ := X.base) I.ok.mod.kin hk (thn (ha pos pins s σ H _ I h) fun us s1 ⟨vs, H1, I1, r, q⟩ => ⟨I1.kIn, ?_⟩) he hpl
  exact run_fn F hr hb hd hx I1 r q
theorem pe_meth {pl : Sem Bool} (he : PE X o ta) (c : Cls X.K C) (hm : Meth X.K C m f) (F : FnOk X.prog X.w X.K X.mg X.base CX k f fd ps sp) (hr : Room k X.A) (hb : Binds X.K fd ps ds) (hd : Vals dvs ds) (hx : Passes CX X E) (ha : PA X (e :: es) t)
    (hst : starEach (e :: es) X.env = (false, eval e X.env) :: starEach es X.env := by rfl) (hpl : (backTo pos (starEach es X.env)).any (·.1) = false := by rfl)
    (ht : eval (.Call (.Attribute o m apos) (e :: es) [] pos) X.env = (do
      let ov ← eval o X.env
      standAt apos.atName
      let (f, first) ← holding [ov] (getMethod ov m pl)
      callWith pos f first (backTo pos (starEach (e :: es) X.env)) (backToKw pos (keywordEach [] X.env))) := by rfl) :
    PE X (.Call (.Attribute o m apos) (e :: es) [] pos) (tMeth C m sp dvs E ta t) := by
  intro pins s σ H Q I h
  refine PySem.W.methodCall_KW (pl := pl) (thn (he pins s σ H _ I h) fun u s1 ⟨x, H1, I1, rx, a, dx, fs, ex, ea, l, q⟩ => ?_) ht
  subst ex
  obtain rfl : u = Value.ref a := rx
  refine getmeth_ok I1 ea c hm l ?_
  refine PySem.W.callWith_K (first := [.ref a]) (h₀ := X.base) I.ok.mod.kin hm.kp (thn (ha pos pins s1 σ H1 _ I1 q) fun us s2 ⟨vs, H2, I2, r, q2⟩ => ⟨I2.kIn, ?_⟩) hst hpl
  exact run_fn (us := .ref a :: us) (vs := .ref a :: vs) F hr hb hd hx I2 (.cons rfl r) q2
theorem pe_meth0 {pl : Sem Bool} (he : PE X o ta) (c : Cls X.K C) (hm : Meth X.K C m f) (F : FnOk X.prog X.w X.K X.mg X.base CX k f fd ps sp) (hr : Room k X.A) (hb : Binds X.K fd ps ds) (hd : Vals dvs ds) (hx : Passes CX X E)
    (ht : eval (.Call (.Attribute o m apos) [] [] pos) X.env = (do
      let ov ← eval o X.env
      standAt apos.atName
      let (f, first) ← holding [ov] (getMethod ov m pl)
      callWith pos f first (backTo pos (starEach [] X.env)) (backToKw pos (keywordEach [] X.env))) := by rfl) :
    PE X (.Call (.Attribute o m apos) [] [] pos) (tMeth C m sp dvs E ta tNil) := by
  intro pins s σ H Q I h
  refine PySem.W.methodCall_KW (pl := pl) (thn (he pins s σ H _ I h) fun u s1 ⟨x, H1, I1, rx, a, dx, fs, ex, ea, l, q⟩ => ?_) ht
  subst ex
  obtain rfl : u = Value.ref a := rx
  refine getmeth_ok I1 ea c hm l ?_
  exact PySem.W.callWith_K0 (first := [.ref a]) I1.kIn hm.kp (run_fn (us := [.ref a]) (vs := [.ref a]) F hr hb hd hx I1 (.cons rfl .nil) q)
structure Mk (K : PySem.W.Frag) (C f : Addr) : Prop where
  makes : PySem.W.makesIn K C = true
  init : PySem.W.findIn K (.ref C) "__init__" = some (some (.ref f))
  fn : PySem.W.isFn K (.ref f) = true
  kp : PySem.W.keepIn K (.ref C) = true
theorem run_make {pins : List (Addr × Obj)} {σ : St} {H : Hp} {s : Shared} {Q : VK} {us : List Value} {vs : List V} (M : Mk X.K C f) (F : FnOk X.prog X.w X.K X.mg X.base CX k f fd ps sp) (hr : Room (k + 1) X.A) (hb : Binds X.K fd ps ds) (hd : Vals dvs ds)
    (hx : Passes CX X E) (I : Inv X pins σ H s) (r : Vals vs us)
    (h : ∀ x dx, H x = none → H dx = none → dx ≠ x → sp (.ref x :: (vs ++ dvs)) (upd (upd H dx (.own x)) x (.ins C dx [])) (fun v H2 => v = .non ∧ Q (.ref x) H2) E) :
    wpAny (model X.prog X.w) X.A (call (.ref C) us) (EP X pins σ Q) X.xe s := by
  have hq := h (s.heap.objs.size + 1) s.heap.objs.size (I.hok.fresh (Nat.le_succ _)) (I.hok.fresh (Nat.le_refl _)) (Nat.ne_of_lt (Nat.lt_succ_self _))
  have I2 := Inv.made (C := C) I
  have r2 : Vals (V.ref (s.heap.objs.size + 1) :: (vs ++ dvs)) (Value.ref (s.heap.objs.size + 1) :: (us ++ ds)) := .cons rfl (r.append hd)
  have hl : (Value.ref (s.heap.objs.size + 1) :: us ++ ds).length = ps.length := by
    have e := r2.length
    rw [F.len _ _ _ _ hq] at e
    exact e.symm
  refine wpAny_call (make_map (f := f) I.kIn M.makes M.init (beq_iff_eq.mp M.fn) (codeAny_mono (F.run _ X.stack _ _ ⟨Value.ref (s.heap.objs.size + 1) :: us, []⟩ (Value.ref (s.heap.objs.size + 1) :: (us ++ ds)) _ _ E (hr.make C us [])
    (I2.env0.make C us []) (hb _ (Value.ref (s.heap.objs.size + 1) :: us) I2.kIn hl) r2 hq) fun r s' hq' => ?_))
  cases r with
  | error e => exact hx pins σ _ _ e s' I2 hq'
  | ok fl =>
    cases fl with
    | ret u =>
      obtain ⟨v, H', I3, rv, ev, q3⟩ := I2.after hq'
      subst ev
      exact ⟨rv, ⟨V.ref (s.heap.objs.size + 1), H', I3, rfl, q3⟩⟩
    | next => exact False.elim hq'
    | brk => exact False.elim hq'
    | cont => exact False.elim hq'
theorem pe_make (M : Mk X.K C f) (F : FnOk X.prog X.w X.K X.mg X.base CX k f fd ps sp) (hr : Room (k + 1) X.A) (hg : Gl X x) (hm : X.mg x = some (.ref C)) (hb : Binds X.K fd ps ds) (hd : Vals dvs ds) (hx : Passes CX X E)
    (ha : PA X (e :: es) t) (hdb : (x == ("__debug__" : Str)) = false := by decide) (he : starEach (e :: es) X.env = (false, eval e X.env) :: starEach es X.env := by rfl) (hpl : (backTo pos (starEach es X.env)).any (·.1) = false := by rfl) :
    PE X (.Call (.Name x p) (e :: es) [] pos) (tMake C sp dvs E t) := by
  intro pins s σ H Q I h
  refine wpAny_Call_Name_kw (ld_glob I hg hm ?_ hdb)
  refine PySem.W.callWith_K (h₀ := X.base) I.ok.mod.kin M.kp (thn (ha pos pins s σ H _ I h) fun us s1 ⟨vs, H1, I1, r, q⟩ => ⟨I1.kIn, ?_⟩) he hpl
  exact run_make M F hr hb hd hx I1 r q
theorem pe_make0 (M : Mk X.K C f) (F : FnOk X.prog X.w X.K X.mg X.base CX k f fd ps sp) (hr : Room (k + 1) X.A) (hg : Gl X x) (hm : X.mg x = some (.ref C)) (hb : Binds X.K fd ps ds) (hd : Vals dvs ds) (hx : Passes CX X E)
    (hdb : (x == ("__debug__" : Str)) = false := by decide) : PE X (.Call (.Name x p) [] [] pos) (tMake C sp dvs E tNil) := by
  intro pins s σ H Q I h
  refine wpAny_Call_Name_kw (ld_glob I hg hm ?_ hdb)
  exact PySem.W.callWith_K0 I.kIn M.kp (run_make (us := []) M F hr hb hd hx I .nil h)
end
structure FnScope (N P : List Str) (sc : Scope) : Prop where
  kind : sc.kind = .function
  co : sc.isCoroutine = false
  gen : sc.isGenerator = false
  nd : N.Nodup
  pre : N.take P.length = P
  par : ∀ x ∈ P, sc.names.lookup x = some .local ∨ sc.names.lookup x = some .cell
  nofree : ∀ y ∈ sc.names, y.2 ≠ .free
theorem bindL_out {kindOf : Str → Option NameKind} {x : Str} : ∀ {binds : List (Str × Value)} {m : Str → Option Value}, (∀ v, (x, v) ∉ binds) → bindL kindOf binds m x = m x
  | [], _, _ => rfl
  | (n, v) :: r, m, h => by
    unfold bindL
    rw [bindL_out fun w hw => h w (List.mem_cons_of_mem _ hw)]
    split
    · have : x ≠ n := by rintro rfl; exact h v List.mem_cons_self
      simp [this]
    · rfl
theorem bindC_out {kindOf : Str → Option NameKind} {x : Str} : ∀ {binds : List (Str × Value)} {m : Str → Option Value}, (∀ v, (x, v) ∉ binds) → bindC kindOf binds m x = m x
  | [], _, _ => rfl
  | (n, v) :: r, m, h => by
    unfold bindC
    rw [bindC_out fun w hw => h w (List.mem_cons_of_mem _ hw)]
    split
    · rfl
    · have : x ≠ n := by rintro rfl; exact h v List.mem_cons_self
      simp [this]
theorem bindL_get {kindOf : Str → Option NameKind} {x : Str} {v : Value} : ∀ {P : List Str} {vs : List Value} {i : Nat} {m : Str → Option Value}, P.Nodup → P[i]? = some x → vs[i]? = some v → kindOf x = some .local →
    bindL kindOf (P.zip vs) m x = some v
  | [], _, _, _, _, h, _, _ => by simp at h
  | _ :: _, [], _, _, _, _, h, _ => by simp at h
  | p :: P, w :: vs, 0, m, nd, h1, h2, hk => by
    simp at h1 h2; subst h1; subst h2
    show bindL kindOf ((p, w) :: P.zip vs) m p = _
    unfold bindL
    rw [bindL_out fun v hv => (List.nodup_cons.mp nd).1 (List.of_mem_zip hv).1, if_pos hk]
    simp
  | p :: P, w :: vs, i + 1, m, nd, h1, h2, hk => by
    show bindL kindOf ((p, w) :: P.zip vs) m x = _
    unfold bindL
    exact bindL_get (i := i) (List.nodup_cons.mp nd).2 (by simpa using h1) (by simpa using h2) hk
theorem bindC_get {kindOf : Str → Option NameKind} {x : Str} {v : Value} : ∀ {P : List Str} {vs : List Value} {i : Nat} {m : Str → Option Value}, P.Nodup → P[i]? = some x → vs[i]? = some v → kindOf x ≠ some .local →
    bindC kindOf (P.zip vs) m x = some v
  | [], _, _, _, _, h, _, _ => by simp at h
  | _ :: _, [], _, _, _, _, h, _ => by simp at h
  | p :: P, w :: vs, 0, m, nd, h1, h2, hk => by
    simp at h1 h2; subst h1; subst h2
    show bindC kindOf ((p, w) :: P.zip vs) m p = _
    unfold bindC
    rw [bindC_out fun v hv => (List.nodup_cons.mp nd).1 (List.of_mem_zip hv).1, if_neg hk]
    simp
  | p :: P, w :: vs, i + 1, m, nd, h1, h2, hk => by
    show bindC kindOf ((p, w) :: P.zip vs) m x = _
    unfold bindC
    exact bindC_get (i := i) (List.nodup_cons.mp nd).2 (by simpa using h1) (by simpa using h2) hk
def start (N : List Str) (vs : List V) : St := vs.map some ++ List.replicate (N.length - vs.length) none
def cxOf (CX : CXT) (P : Program) (w : World) (K : PySem.W.Frag) (mg : Str → Option Value) (base : Heap) (N : List Str) (qual : Str) (scope : Scope) (f : Addr) (cd : Value) (A : Around) (outer : List Env) (s : Shared) (H : Hp) (E : XK) : Cx where
  prog := P
  w := w
  K := K
  mg := mg
  base := base
  A := A.deeper (envOfC qual scope s.heap.objs.size f cd)
  N := N
  s_0 := s
  H_0 := H
  env := envOfC qual scope s.heap.objs.size f cd
  outer := outer
  stack := envOfC qual scope s.heap.objs.size f cd :: outer
  ex := []
  calm := true
  fn := fun _ => true
  pn := []
  xe := fun e s' => wpAny (model P w) (A.deeper (envOfC qual scope s.heap.objs.size f cd)) (leaving (envOfC qual scope s.heap.objs.size f cd) e) (fun _ s'' => CX outer H s E e s'') (fun e' s'' => CX outer H s E e' s'') s'
theorem cell_has {sc : Scope} {n : Nat} {x : Str} (h : sc.names.lookup x = some .cell) : ∃ c, (cellsFrom n sc.names []).lookup x = some c := by
  have q := PySem.W.cellsFrom_some sc.names n [] (.inl h)
  exact Option.isSome_iff_exists.mp q
theorem inv_start {CX : CXT} {P : Program} {w : World} {K : PySem.W.Frag} {mg : Str → Option Value} {base : Heap} {N ps : List Str} {qual : Str} {scope : Scope} {f : Addr} {cd : Value} {A : Around} {outer : List Env} {s s1 : Shared} {H : Hp} {E : XK} {us : List Value} {vs : List V}
    (S : FnScope N ps scope) (hd : A.handled = none) (e0 : Env0 P w K mg base A outer s H) (hl : vs.length = ps.length) (r : Vals vs us)
    (x : InCallC s s.heap.objs.size (bindL (envOfC qual scope s.heap.objs.size f cd).kindOf (ps.zip us) fun _ => none) (cellsFrom (s.heap.objs.size + 1) scope.names []) (bindC (envOfC qual scope s.heap.objs.size f cd).kindOf (ps.zip us) fun _ => none) s1) :
    Inv (cxOf CX P w K mg base N qual scope f cd A outer s H E) [] (start N vs) H s1 := by
  have hpl : ps.length ≤ N.length := by have := congrArg List.length S.pre; rw [List.length_take] at this; omega
  obtain ⟨h1, tk, rfl, hk⟩ := x.done
  have noA : ∀ b : Addr, b ∉ (cxOf CX P w K mg base N qual scope f cd A outer s H E).ex := fun b z => absurd (show b ∈ ([] : List Addr) from z) (by simp)
  refine ⟨⟨e0.mod, S.kind, rfl, rfl, Nat.le_refl _, fun y z c h1 h2 => ?_, fun y hy => ?_, fun y c _ h => ?_, fun _ => hd, Around.frames_deeper e0.frames, .inr ⟨rfl, rfl⟩, fun b z => absurd z (noA b), e0.bs, e0.bsz, fun b _ _ => noA b, fun b z => absurd z (noA b), e0.funs, e0.frf⟩,
    rfl, e0.bare, Un.kept hk, ⟨_, x.toInCall.ns, fun i y v h1 h2 h3 => ?_⟩, fun y c h => ⟨_, x.cell y c h⟩, e0.hok.fresh (Nat.le_refl _), fun y c h => ?_, fun p hp => absurd (show p ∈ ([] : List (Addr × Obj)) from hp) (by simp), e0.hok.kept hk, ?_⟩
  · exact name_of_addr x.apart (PySem.mem_of_lookup h1) (PySem.mem_of_lookup h2)
  · have hy : scope.names.lookup y = some .cell ∨ scope.names.lookup y = some .free := hy
    rcases hy with hy | hy
    · exact cell_has hy
    · exact absurd rfl (S.nofree _ (PySem.mem_of_lookup hy))
  · exact Nat.le_of_lt (x.above y c (PySem.mem_of_lookup h))
  · have hi : i < vs.length := by
      unfold start at h2
      by_cases hi : i < vs.length
      · exact hi
      · rw [List.getElem?_append_right (by simpa using hi)] at h2
        rw [List.getElem?_replicate] at h2
        split at h2 <;> cases h2
    have ha : vs[i]? = some v := by
      unfold start at h2
      rw [List.getElem?_append_left (by simpa using hi), List.getElem?_map] at h2
      cases e : vs[i]? with
      | none => rw [e] at h2; cases h2
      | some a => rw [e] at h2; cases h2; rfl
    obtain ⟨u, hu, rv⟩ := r.get ha
    have hp : ps[i]? = some y := by
      rw [← S.pre, List.getElem?_take_of_lt (by omega)]; exact h1
    have ndP : ps.Nodup := by rw [← S.pre]; exact S.nd.sublist (List.take_sublist _ _)
    refine ⟨u, rv, ?_⟩
    rcases S.par y (List.mem_of_getElem? hp) with k | k
    · exact .inl ⟨k, bindL_get ndP hp hu k⟩
    · obtain ⟨c, e⟩ := cell_has (n := s.heap.objs.size + 1) k
      refine .inr ⟨.inl k, c, e, ?_⟩
      have q := x.cell y c e
      rw [bindC_get ndP hp hu (by show scope.names.lookup y ≠ _; rw [k]; decide)] at q
      exact q
  · exact e0.hok.fresh (Nat.le_of_lt (x.above y c (PySem.mem_of_lookup h)))
  · unfold start
    show _ = N.length
    rw [List.length_append, List.length_map, List.length_replicate]
    omega
theorem fn_of {CX : CXT} {P : Program} {w : World} {K : PySem.W.Frag} {mg : Str → Option Value} {base : Heap} {k : Nat} {f : Addr} {name qual : Str} {params : Arguments} {body : List Stmt} {scope : Scope} {dV kV doc pm cdv ct oc : Value} {an od : Option Addr}
    {osl : Array (Option Value)} {N ps : List Str} {sp : Sp} (lk : K.lookup f = some ⟨oc, od, .func (PySem.W.fnOf name qual params body scope dV kV doc pm an cdv ct), osl⟩) (hcd : PySem.W.codeIn K cdv qual = true) (S : FnScope N ps scope)
    (len : ∀ vs H Q E, sp vs H Q E → vs.length = ps.length)
    (hbody : ∀ (A : Around) (outer : List Env) (s : Shared) (H : Hp) (vs : List V) (Q : VK) (E : XK), Room k (A.deeper (envOfC qual scope s.heap.objs.size f cdv)) → sp vs H Q E →
      ∃ t, PSs (cxOf CX P w K mg base N qual scope f cdv A outer s H E) body t ∧ t { nx := fun _ H' => Q .non H', rt := Q } (start N vs) H) :
    FnOk P w K mg base CX (k + 1) f (PySem.W.fnOf name qual params body scope dV kV doc pm an cdv ct) ps sp := by
  refine ⟨len, fun A outer s H args us vs Q E hr e0 hb r hsp => ?_⟩
  have hl := len _ _ _ _ hsp
  have KX : K.In s.heap := e0.mod.kin.keeps fun b o e => (e0.bs b o e).1
  have lim : s.heap.NoLimit := e0.mod.nolimit.keeps fun b o e => (e0.bs b o e).1
  have hkind : ∀ y ∈ ps.zip us, scope.names.lookup y.1 = some .local ∨ (scope.names.lookup y.1 = some .cell ∧ ((cellsFrom (s.heap.objs.size + 1) scope.names []).lookup y.1).isSome = true) := fun ⟨n, v⟩ hy => by
    rcases S.par n (List.of_mem_zip hy).1 with q | q
    · exact .inl q
    · exact .inr ⟨q, PySem.W.cellsFrom_some _ _ _ (.inl q)⟩
  refine codeAny_call_function hr.depth (KX _ _ lk) rfl S.co S.gen rfl (PySem.W.codeRec_of KX hcd) (hb _ _ _ _ ?_)
  refine wpAny_newFunctionEnv_cells S.kind hkind fun env he s1 x => ?_
  subst he
  refine ⟨lim.keeps x.toInCall.keep, codeAny_func ?_⟩
  obtain ⟨t, ht, hq⟩ := hbody A outer s H vs Q E (hr.deeper _) hsp
  have I : Inv (cxOf CX P w K mg base N qual scope f cdv A outer s H E) [] (start N vs) H s1 := inv_start S hr.hd e0 hl r x
  refine wpAny_mono (ht [] s1 (start N vs) H _ I hq) (fun fl s' hs => ?_) fun e s' hs => hs
  have fin : ∀ {σ' : St} {H' : Hp} {v : V} {u : Value}, Inv (cxOf CX P w K mg base N qual scope f cdv A outer s H E) [] σ' H' s' → RelV v u → Q v H' → CE outer P w H s Q u s' :=
    fun {σ' H' v u} J rv q => ⟨v, H', J.os, J.bare, J.base, J.hok, rv, q⟩
  cases fl with
  | ret u =>
    obtain ⟨v, σ', H', J, rv, q⟩ := hs
    exact fin J rv q
  | next =>
    obtain ⟨σ', H', J, q⟩ := hs
    exact fin (v := V.non) (u := Value.none) J rfl q
  | brk =>
    obtain ⟨_, _, _, q⟩ := hs
    exact False.elim q
  | cont =>
    obtain ⟨_, _, _, q⟩ := hs
    exact False.elim q
end L2
namespace L2
open PySem PySem.Spec PyProof.Rows
section
variable {X : Cx} {x : Str} {p pos : Pos} {e : Expr} {es : List Expr} {t : TA} {id T : String} {r : List V → Hp → VK → Prop}
def tCB (r : List V → Hp → VK → Prop) (t : TA) : TE := fun σ H Q => t σ H fun vs H1 => r vs H1 Q
theorem pe_callB (hc : CallR X (.builtin id) r) (hg : Gl X x) (hm : X.mg x = none) (hv : bootBuiltins x = some (.builtin id)) (ha : PA X (e :: es) t) (hn : x ≠ "__name__" := by decide) (hdb : (x == ("__debug__" : Str)) = false := by decide)
    (he : starEach (e :: es) X.env = (false, eval e X.env) :: starEach es X.env := by rfl) (hpl : (backTo pos (starEach es X.env)).any (·.1) = false := by rfl) : PE X (.Call (.Name x p) (e :: es) [] pos) (tCB r t) := by
  intro pins s σ H Q I h
  refine wpAny_Call_Name_kw (ld_blt I hg hm hv ?_ hn hdb)
  exact PyProof.Rows.callWith_builtin1 (thn (ha pos pins s σ H _ I h) fun us s1 ⟨vs, H1, I1, r1, q1⟩ => hc pins s1 σ H1 vs us Q I1 r1 q1) he hpl
theorem pe_callTy (hc : CallR X (.type T) r) (hg : Gl X x) (hm : X.mg x = none) (hv : bootBuiltins x = some (.type T)) (ha : PA X (e :: es) t) (hn : x ≠ "__name__" := by decide) (hdb : (x == ("__debug__" : Str)) = false := by decide)
    (he : starEach (e :: es) X.env = (false, eval e X.env) :: starEach es X.env := by rfl) (hpl : (backTo pos (starEach es X.env)).any (·.1) = false := by rfl) : PE X (.Call (.Name x p) (e :: es) [] pos) (tCB r t) := by
  intro pins s σ H Q I h
  refine wpAny_Call_Name_kw (ld_blt I hg hm hv ?_ hn hdb)
  exact PyProof.Rows.callWith_type1 (thn (ha pos pins s σ H _ I h) fun us s1 ⟨vs, H1, I1, r1, q1⟩ => hc pins s1 σ H1 vs us Q I1 r1 q1) he hpl
end
end L2
namespace HT
open PySem PyProof.Rows
section
open PySem.SeqAt
open PySem.AutoSeq1 (wpAny_loadPart')
open PySem.MeetsSeq PySem.MeetsSeq2 PySem.MeetsSeq3
end
section
variable {prog : Program} {w : World} {A : Around} {E : Value → Shared → Prop} {s : Shared}
def sIx (n d : Nat) : Option Int → Nat
  | none => d
  | some v => if v < 0 then (v + (n : Int)).toNat else min v.toNat n
theorem sIx_nat (n d k : Nat) : sIx n d (some (k : Int)) = min k n := by
  show (if (k : Int) < 0 then ((k : Int) + (n : Int)).toNat else min (k : Int).toNat n) = min k n
  rw [if_neg (by omega), Int.toNat_natCast]
end
end HT
namespace L2
open PySem PySem.Spec PyProof.Rows
abbrev TO := St → Hp → (Option Int → Hp → Prop) → Prop
def PO (X : Cx) (e : Option Expr) (t : TO) : Prop :=
  ∀ (pins : List (Addr × Obj)) (s : Shared) (σ : St) (H : Hp) (Q : Option Int → Hp → Prop), Inv X pins σ H s → t σ H Q →
    wpAny (model X.prog X.w) X.A (evalPart e X.env) (fun u s' => ∃ o H', Inv X pins σ H' s' ∧ IsPart u o ∧ Q o H') X.xe s
def tNoPart : TO := fun _ H Q => Q none H
def tPart (t : TE) : TO := fun σ H Q => t σ H fun x H1 => ∃ i, x = .int i ∧ Q (some i) H1
section
variable {X : Cx} {e : Expr} {te : TE} {lo hi : Option Expr} {tl th : TO} {pos p2 : Pos}
theorem po_none : PO X none tNoPart := by
  intro pins s σ H Q I h
  rw [evalPart_none]
  exact wpAny_pure ⟨none, H, I, .none, h⟩
theorem po_some (h : PE X e te) : PO X (some e) (tPart te) := by
  intro pins s σ H Q I hw
  rw [evalPart_some]
  refine thn (h pins s σ H _ I hw) fun u s1 ⟨x, H1, I1, r1, q1⟩ => ?_
  obtain ⟨i, rfl, q⟩ := q1
  obtain ⟨t, rfl⟩ := r1
  exact ⟨some i, H1, I1, .int i t, q⟩
def SlR (X : Cx) (r : V → Option Int → Option Int → Hp → VK → Prop) : Prop :=
  ∀ (pins : List (Addr × Obj)) (s : Shared) (σ : St) (H : Hp) (x : V) (v vl vu : Value) (lo hi : Option Int) (sl : Addr) (Q : VK), Inv X pins σ H s → RelV x v → s.heap.IsSliceOf sl vl vu .none → IsPart vl lo → IsPart vu hi → r x lo hi H Q →
    ∃ T id, typeLookup (.type T) "__getitem__" = pure (some (.builtin id)) ∧ s.TypeIs v T ∧ wpAny (model X.prog X.w) X.A (getItem v (.ref sl)) (EP X pins σ Q) X.xe s
def tSl (r : V → Option Int → Option Int → Hp → VK → Prop) (te : TE) (tl th : TO) : TE := fun σ H Q => te σ H fun x H1 => tl σ H1 fun l H2 => th σ H2 fun u H3 => r x l u H3 Q
theorem pe_slice {r : V → Option Int → Option Int → Hp → VK → Prop} (hr : SlR X r) (he : PE X e te) (hl : PO X lo tl) (hu : PO X hi th) : PE X (.Subscript e (.Slice lo hi none p2) pos) (tSl r te tl th) := by
  intro pins s σ H Q I h
  refine Subscript_ (thn (he pins s σ H _ I h) fun v s1 ⟨x, H1, I1, r1, q1⟩ => ?_)
  refine wpAny_Slice (thn (hl pins s1 σ H1 _ I1 q1) fun vl s2 ⟨l, H2, I2, pl, q2⟩ => thn (hu pins s2 σ H2 _ I2 q2) fun vu s3 ⟨u, H3, I3, pu, q3⟩ => ?_)
  rw [evalPart_none]
  refine wpAny_pure ?_
  have I4 : Inv X pins σ H3 { s3 with heap := s3.heap.push { cls := .type "slice", data := .fields #[vl, vu, .none] } } := I3.kept (t' := s3.toks) fun b ob q => Heap.get?_push_of_some _ q
  obtain ⟨T, id, hT, ht, hg⟩ := hr pins { s3 with heap := s3.heap.push { cls := .type "slice", data := .fields #[vl, vu, .none] } } σ H3 x v vl vu l u s3.heap.objs.size Q I4 r1 (Heap.IsSliceOf.new ..) pl pu q3
  show wpAny (model X.prog X.w) X.A (subscriptTail e (.Slice lo hi none p2) v (.ref s3.heap.objs.size)) (EP X pins σ Q) X.xe { s3 with heap := s3.heap.push { cls := .type "slice", data := .fields #[vl, vu, .none] } }
  exact tail_any (ops := [.ref s3.heap.objs.size, v]) ht hT hg (by with_unfolding_all rfl)
def cutV (xs : List V) (lo hi : Option Int) : List V := (xs.drop (HT.sIx xs.length 0 lo)).take (HT.sIx xs.length xs.length hi - HT.sIx xs.length 0 lo)
theorem cutV_length (xs : List V) (lo hi : Option Int) : (cutV xs lo hi).length ≤ xs.length := by
  unfold cutV
  rw [List.length_take, List.length_drop]
  omega
end
end L2
namespace L2
open PySem PySem.Spec PyProof.Rows
def ixN (n : Nat) (i : Int) : Option Nat := if 0 ≤ i then (if i < n then some i.toNat else none) else if -(n : Int) ≤ i then some (i + n).toNat else none
def atI {α : Type} (xs : List α) (i : Int) : Option α := (ixN xs.length i).bind fun j => xs[j]?
theorem ixN_seq {n : Nat} {i : Int} {j : Nat} (h : ixN n i = some j) : seqIndex? i n = some j ∧ j < n ∧ -(n : Int) ≤ i ∧ i < n := by
  unfold ixN at h
  by_cases h0 : 0 ≤ i
  · rw [if_pos h0] at h
    by_cases h1 : i < n
    · rw [if_pos h1] at h
      have e : i.toNat = j := Option.some.inj h
      exact ⟨by rw [seqIndex_of h0 h1, e], by omega, by omega, h1⟩
    · rw [if_neg h1] at h; cases h
  · rw [if_neg h0] at h
    by_cases h1 : -(n : Int) ≤ i
    · rw [if_pos h1] at h
      have e : (i + n).toNat = j := Option.some.inj h
      exact ⟨by rw [seqIndex_neg (by omega) h1, e], by omega, h1, by omega⟩
    · rw [if_neg h1] at h; cases h
theorem atI_get {α : Type} {xs : List α} {i : Int} {v : α} (h : atI xs i = some v) : ∃ j, seqIndex? i xs.length = some j ∧ xs[j]? = some v ∧ j < xs.length ∧ -(xs.length : Int) ≤ i ∧ i < xs.length := by
  unfold atI at h
  cases e : ixN xs.length i with
  | none => rw [e] at h; cases h
  | some j =>
    rw [e] at h
    obtain ⟨h1, h2, h3, h4⟩ := ixN_seq e
    exact ⟨j, h1, h, h2, h3, h4⟩
theorem atI_nat {α : Type} {xs : List α} {j : Nat} {v : α} (h : xs[j]? = some v) : atI xs (j : Int) = some v := by
  have hj : j < xs.length := (List.getElem?_eq_some_iff.mp h).1
  have e : ixN xs.length (j : Int) = some j := by
    unfold ixN
    rw [if_pos (by omega), if_pos (by omega)]; simp
  unfold atI; rw [e]; exact h
def PlainIx (b : Expr) : Prop := ∀ o i, subscripted b false o i = operate [o, i] (getItem o i)
def IxR (X : Cx) (r : R2) : Prop :=
  ∀ (value slice : Expr) (pins : List (Addr × Obj)) (s : Shared) (σ : St) (H : Hp) (x y : V) (v u : Value) (Q : VK), Inv X pins σ H s → RelV x v → RelV y u → r x y H Q →
    subscripted slice false v u = operate [v, u] (getItem v u) → wpAny (model X.prog X.w) X.A (subscriptTail value slice v u) (EP X pins σ Q) X.xe s
def MtR (X : Cx) (id : String) (r : V → List V → Hp → VK → Prop) : Prop :=
  ∀ (pins : List (Addr × Obj)) (s : Shared) (σ : St) (H : Hp) (x : V) (xs : List V) (v : Value) (us : List Value) (Q : VK), Inv X pins σ H s → RelV x v → Vals xs us → r x xs H Q →
    wpAny (model X.prog X.w) X.A (call (.builtin id) (v :: us)) (EP X pins σ Q) X.xe s
section
variable {X : Cx} {a b : Expr} {ta tb : TE} {pos : Pos}
theorem pe_ix {r : R2} (hr : IxR X r) (ha : PE X a ta) (hb : PE X b tb) (hs : PlainIx b) : PE X (.Subscript a b pos) (tOp r ta tb) := by
  intro pins s σ H Q I h
  exact Subscript_ (binT ha hb I h fun v u s2 x y H2 I2 rx ry q => hr a b pins s2 σ H2 x y v u Q I2 rx ry q (hs _ _))
def rIxL (K : PySem.W.Frag) : R2 := fun x y H Q => ∃ p xs i v, x = .ref p ∧ y = .int i ∧ SqL K H p xs ∧ atI xs i = some v ∧ Q v H
def rIxT (K : PySem.W.Frag) : R2 := fun x y H Q => ∃ p xs i v, x = .ref p ∧ y = .int i ∧ SqT K H p xs ∧ atI xs i = some v ∧ Q v H
def rIxS : R2 := fun x y H Q => ∃ z i c, x = .str z ∧ y = .int i ∧ z.length ≤ sizeLine ∧ atI z.cps.toList i = some c ∧ Q (.str ⟨#[c]⟩) H
theorem ix_list : IxR X (rIxL X.K) := by
  intro value slice pins s σ H x y v u Q I rx ry h hs
  obtain ⟨p, xs, i, z, rfl, rfl, hq, he, q⟩ := h
  cases rx
  obtain ⟨t, rfl⟩ := ry
  obtain ⟨its, r, pl, hz⟩ := I.list hq
  obtain ⟨j, h1, h2, h3, h4, h5⟩ := atI_get he
  obtain ⟨w, ew, rw'⟩ := r.get h2
  have hl := r.length
  have hn := line63
  have fin : EP X pins σ Q w s := ⟨z, H, I, rw', q⟩
  by_cases h0 : 0 ≤ i
  · have hj : i.toNat = j := by
      rw [seqIndex_of h0 h5] at h1
      exact Option.some.inj h1
    exact item_listR pl.isList h0 (by omega) (by rw [hj]; simpa using ew) fin hs
  · have hj : (i + (its.toArray.size : Int)).toNat = j := by
      rw [seqIndex_neg (by omega) h4] at h1
      rw [List.size_toArray, ← hl]
      exact Option.some.inj h1
    exact subscriptTail_builtinR (x := w) pl.isList.typeIs slot_list_getitem.lookup
      (wpAny_getItem_list_neg (Q := fun r s' => r = w ∧ EP X pins σ Q r s') pl.isList (by omega) (by rw [List.size_toArray] <;> omega) (by omega) (by rw [hj]; simpa using ew) ⟨rfl, fin⟩) hs
theorem ix_tup : IxR X (rIxT X.K) := by
  intro value slice pins s σ H x y v u Q I rx ry h hs
  obtain ⟨p, xs, i, z, rfl, rfl, hq, he, q⟩ := h
  cases rx
  obtain ⟨t, rfl⟩ := ry
  obtain ⟨its, r, pl, hz⟩ := I.tuple hq
  obtain ⟨j, h1, h2, h3, h4, h5⟩ := atI_get he
  obtain ⟨w, ew, rw'⟩ := r.get h2
  have hl := r.length
  have hn := line63
  have fin : EP X pins σ Q w s := ⟨z, H, I, rw', q⟩
  exact subscriptTail_builtinR (x := w) pl.typeIs slot_tuple_getitem.lookup
    (getItem_tuple (j := j) (Q := fun r s' => r = w ∧ EP X pins σ Q r s') pl (by omega) (by omega) (by rw [List.size_toArray, ← hl]; exact h1) (by simpa using ew) ⟨rfl, fin⟩) hs
theorem ix_str : IxR X rIxS := by
  intro value slice pins s σ H x y v u Q I rx ry h hs
  obtain ⟨z, i, c, rfl, rfl, hz, he, q⟩ := h
  obtain ⟨t, rfl⟩ := rx
  obtain ⟨t', rfl⟩ := ry
  obtain ⟨j, h1, h2, h3, h4, h5⟩ := atI_get he
  have hl : z.cps.toList.length = z.length := by simp [Str.length]
  rw [hl] at h1 h4 h5
  have hn := line63
  exact tail_any (typeIs_str s z t) slot_str_getitem.lookup (getItem_str (c := c) (by
    have e1 : decide (i < -(2 ^ 63 : Int)) = false := decide_eq_false (by omega)
    have e2 : decide (i ≥ 2 ^ 63) = false := decide_eq_false (by omega)
    rw [e1, e2, Bool.or_false]) (by rw [h1]; simpa using h2) ⟨.str ⟨#[c]⟩, H, I.tok _, ⟨_, rfl⟩, q⟩) hs
theorem slice_bounds (lo hi : Option Int) (n : Nat) : (sliceBounds lo hi none n).1 = ((HT.sIx n 0 lo : Nat) : Int) ∧ (sliceBounds lo hi none n).2.1 = ((HT.sIx n n hi : Nat) : Int) ∧ (sliceBounds lo hi none n).2.2 = 1 := by
  refine ⟨?_, ?_, rfl⟩
  · cases lo with
    | none => simp [sliceBounds, HT.sIx]
    | some i =>
      simp only [sliceBounds, HT.sIx, Option.getD_none, show (1 : Int) > 0 by decide, if_true]
      by_cases h : i < 0
      · simp only [h, if_true] <;> omega
      · simp only [h, if_false] <;> omega
  · cases hi with
    | none => simp [sliceBounds, HT.sIx]
    | some i =>
      simp only [sliceBounds, HT.sIx, Option.getD_none, show (1 : Int) > 0 by decide, if_true]
      by_cases h : i < 0
      · simp only [h, if_true] <;> omega
      · simp only [h, if_false] <;> omega
theorem slicePick_cut (its : List Value) (lo hi : Option Int) : slicePick its.toArray lo hi none = ((its.drop (HT.sIx its.length 0 lo)).take (HT.sIx its.length its.length hi - HT.sIx its.length 0 lo)).toArray := by
  obtain ⟨h1, h2, h3⟩ := slice_bounds lo hi its.toArray.size
  unfold slicePick
  rw [h1, h2, h3]
  simp only [sliceRange_one, pick_run, List.size_toArray] <;> rfl
def rSlL (K : PySem.W.Frag) : V → Option Int → Option Int → Hp → VK → Prop := fun x lo hi H Q => ∃ a xs, x = .ref a ∧ SqL K H a xs ∧ ∀ p, H p = none → Q (.ref p) (upd H p (.lst (cutV xs lo hi)))
theorem sl_list : SlR X (rSlL X.K) := by
  intro pins s σ H x v vl vu lo hi sl Q I rx hs pl pu h
  obtain ⟨a, xs, rfl, hx, q⟩ := h
  cases rx
  obtain ⟨its, r, ht, hz⟩ := I.list hx
  have hlen := r.length
  refine ⟨"list", _, slot_list_getitem.lookup, ht.isList.typeIs, ?_⟩
  refine wpAny_getItem_list_slice ht.isList hs pl pu .none (by simp) ?_ (by rw [List.size_toArray] <;> omega)
  rw [slicePick_cut, ← hlen]
  refine ⟨.ref s.heap.objs.size, _, I.laid (t' := s.toks) (o := .lst (cutV xs lo hi)) (fun b ob q => Heap.get?_push_of_some _ q) (Nat.le_refl _) ?_, rfl, q _ (I.hok.fresh (Nat.le_refl _))⟩
  exact ⟨Nat.le_trans (cutV_length xs lo hi) hz, _, 0, (r.drop (HT.sIx xs.length 0 lo)).take (HT.sIx xs.length xs.length hi - HT.sIx xs.length 0 lo), Heap.get?_push_size _ rfl⟩
def flatV : V → Bool
  | .non => true
  | .bl _ => true
  | .int _ => true
  | .str _ => true
  | _ => false
def eqV : V → V → Bool
  | .non, .non => true
  | .bl a, .bl b => a == b
  | .bl a, .int b => (if a then 1 else 0) == b
  | .int a, .bl b => a == (if b then 1 else 0)
  | .int a, .int b => a == b
  | .str a, .str b => a == b
  | _, _ => false
theorem eqAt_V {A : Around} {s : Shared} {y x : V} {u v : Value} (ry : RelV y u) (rx : RelV x v) (fy : flatV y = true) (fx : flatV x = true) : SeqAt.EqAt A s u v (eqV y x) := by
  cases y with
  | non =>
    cases ry
    cases x with
    | non => cases rx; exact SeqAt.EqAt.same _
    | bl b => cases rx; exact SeqAt.EqAt.none_bool b
    | int b => obtain ⟨t, rfl⟩ := rx; exact SeqAt.EqAt.none_int b t
    | str b => obtain ⟨t, rfl⟩ := rx; exact SeqAt.EqAt.none_str b t
    | _ => exact absurd (show false = true from fx) Bool.false_ne_true
  | bl a =>
    cases ry
    cases x with
    | non => cases rx; exact SeqAt.EqAt.bool_none a
    | bl b => cases rx; exact SeqAt.EqAt.bool_bool a b
    | int b => obtain ⟨t, rfl⟩ := rx; exact SeqAt.EqAt.bool_int a b t
    | str b => obtain ⟨t, rfl⟩ := rx; exact SeqAt.EqAt.bool_str a b t
    | _ => exact absurd (show false = true from fx) Bool.false_ne_true
  | int a =>
    obtain ⟨t', rfl⟩ := ry
    cases x with
    | non => cases rx; exact SeqAt.EqAt.int_none a t'
    | bl b => cases rx; exact SeqAt.EqAt.int_bool a t' b
    | int b => obtain ⟨t, rfl⟩ := rx; exact SeqAt.EqAt.int_int a t' b t
    | str b => obtain ⟨t, rfl⟩ := rx; exact SeqAt.EqAt.int_str a t' b t
    | _ => exact absurd (show false = true from fx) Bool.false_ne_true
  | str a =>
    obtain ⟨t', rfl⟩ := ry
    cases x with
    | non => cases rx; exact SeqAt.EqAt.str_none a t'
    | bl b => cases rx; exact SeqAt.EqAt.str_bool a t' b
    | int b => obtain ⟨t, rfl⟩ := rx; exact SeqAt.EqAt.str_int a t' b t
    | str b => obtain ⟨t, rfl⟩ := rx; exact SeqAt.EqAt.str_str a t' b t
    | _ => exact absurd (show false = true from fx) Bool.false_ne_true
  | _ => exact absurd (show false = true from fy) Bool.false_ne_true
def eqU (x : V) (u : Value) : Bool := match u with
  | .none => eqV .non x
  | .bool b => eqV (.bl b) x
  | .int i _ => eqV (.int i) x
  | .str z _ => eqV (.str z) x
  | _ => false
theorem eqU_of {x y : V} {u : Value} (r : RelV y u) (f : flatV y = true) : eqU x u = eqV y x := by
  cases y with
  | non => cases r; rfl
  | bl b => cases r; rfl
  | int i => obtain ⟨t, rfl⟩ := r; rfl
  | str z => obtain ⟨t, rfl⟩ := r; rfl
  | _ => exact absurd (show false = true from f) Bool.false_ne_true
theorem any_eqU {x : V} : ∀ {xs : List V} {us : List Value}, Vals xs us → xs.all flatV = true → us.any (eqU x) = xs.any fun y => eqV y x
  | _, _, .nil, _ => rfl
  | y :: xs, u :: us, .cons r t, f => by
    rw [List.all_cons, Bool.and_eq_true] at f
    rw [List.any_cons, List.any_cons, eqU_of r f.1, any_eqU t f.2]
theorem mem_eqAt {A : Around} {s : Shared} {x : V} {v : Value} (rx : RelV x v) (fx : flatV x = true) : ∀ {xs : List V} {us : List Value}, Vals xs us → xs.all flatV = true → ∀ u ∈ us, SeqAt.EqAt A s u v (eqU x u)
  | _, _, .nil, _ => fun u hu => by cases hu
  | y :: xs, u :: us, .cons r t, f => fun u' hu => by
    rw [List.all_cons, Bool.and_eq_true] at f
    rcases List.mem_cons.mp hu with rfl | hu
    · rw [eqU_of r f.1]; exact eqAt_V r rx f.1 fx
    · exact mem_eqAt rx fx t f.2 u' hu
def inV (x : V) (xs : List V) : Bool := xs.any fun y => eqV y x
def rIn (K : PySem.W.Frag) (neg : Bool) : R2 := fun x y H Q => ∃ p xs, y = .ref p ∧ (SqL K H p xs ∨ SqT K H p xs) ∧ flatV x = true ∧ xs.all flatV = true ∧ Q (.bl (if neg then !inV x xs else inV x xs)) H
theorem op_notIn_seq : OpR X (compareOp .NotIn) (rIn X.K true) := by
  intro pins s σ H x y v u Q I rx ry h
  obtain ⟨p, xs, rfl, hq, fx, fs, q⟩ := h
  cases ry
  rcases hq with hq | hq
  · obtain ⟨its, r, pl, hz⟩ := I.list hq
    refine SeqAt.notIn_listAt (eqU x) pl.isList (fun w hw => mem_eqAt rx fx r fs w (by simpa using hw)) ⟨.bl _, H, I, rfl, ?_⟩
    rw [show its.toArray.any (eqU x) = its.any (eqU x) by simp, any_eqU r fs]
    exact q
  · obtain ⟨its, r, pl, hz⟩ := I.tuple hq
    refine SeqAt.notIn_tupleAt (eqU x) pl (fun w hw => mem_eqAt rx fx r fs w (by simpa using hw)) ⟨.bl _, H, I, rfl, ?_⟩
    rw [show its.toArray.any (eqU x) = its.any (eqU x) by simp, any_eqU r fs]
    exact q
theorem call_len_seq : CallR X (.builtin "len") (fun xs H Q => ∃ p ys, xs = [.ref p] ∧ (SqL X.K H p ys ∨ SqT X.K H p ys) ∧ Q (.int ys.length) H) := by
  intro pins s σ H xs us Q I r h
  obtain ⟨p, ys, rfl, hq, q⟩ := h
  obtain ⟨u, rfl, rx⟩ := vals1 r
  cases rx
  have hn := line63
  rcases hq with hq | hq
  · obtain ⟨its, r', pl, hz⟩ := I.list hq
    have hlen := r'.length
    exact Calls.call_len_list pl.isList (by simp only [List.size_toArray] <;> omega) ⟨.int ys.length, H, I.tok _, ⟨s.toks + 1, by rw [List.size_toArray, hlen]⟩, q⟩
  · obtain ⟨its, r', pl, hz⟩ := I.tuple hq
    have hlen := r'.length
    exact len_tuple pl (by simp only [List.size_toArray] <;> omega) ⟨.int ys.length, H, I.tok _, ⟨s.toks + 1, by rw [List.size_toArray, hlen]⟩, q⟩
theorem call_len_str : CallR X (.builtin "len") (fun xs H Q => ∃ z, xs = [.str z] ∧ z.length ≤ sizeLine ∧ Q (.int z.length) H) := by
  intro pins s σ H xs us Q I r h
  obtain ⟨z, rfl, hz, q⟩ := h
  obtain ⟨u, rfl, t, rfl⟩ := vals1 r
  have hn := line63
  exact len_str (by omega) ⟨.int z.length, H, I.tok _, ⟨_, rfl⟩, q⟩
def tyV (K : PySem.W.Frag) (T : String) (x : V) (H : Hp) : Prop := match x with
  | .str _ => T = "str"
  | .int _ => T = "int"
  | .ref p => (T = "list" ∧ ∃ xs, SqL K H p xs) ∨ (T = "tuple" ∧ ∃ o, K.lookup p = some o ∧ o.cls = .type "tuple" ∧ o.dict = none) ∨
      (T = "dict" ∧ ((∃ kvs, H p = some (.dK kvs)) ∨ ∃ kvs, H p = some (.dT kvs))) ∨ (T = "set" ∧ ∃ S n, H p = some (.set S n))
  | _ => False
theorem tyV_is {pins : List (Addr × Obj)} {σ : St} {H : Hp} {s : Shared} {T : String} {x : V} {v : Value} (I : Inv X pins σ H s) (r : RelV x v) (ty : tyV X.K T x H) :
    s.TypeIs v T ∧ ∀ a, v = .ref a → ∃ ob, s.heap.get? a = some ob ∧ ob.dict = none := by
  cases x with
  | str z =>
    obtain ⟨t, rfl⟩ := r
    cases (show T = "str" from ty)
    exact ⟨typeIs_str s z t, fun _ e => nomatch e⟩
  | int i =>
    obtain ⟨t, rfl⟩ := r
    cases (show T = "int" from ty)
    exact ⟨typeIs_int s i t, fun _ e => nomatch e⟩
  | ref p =>
    cases r
    rcases ty with ⟨rfl, xs, hq⟩ | ⟨rfl, o, hk, hc, hd⟩ | ⟨rfl, hk⟩ | ⟨rfl, S, n, hk⟩
    · obtain ⟨its, _, pl, _⟩ := I.list hq
      refine ⟨pl.isList.typeIs, fun a e => ?_⟩
      cases e
      obtain ⟨o, n, e, c, hd, _⟩ := pl
      exact ⟨o, e, hd⟩
    · refine ⟨⟨o, I.kIn p o hk, hc⟩, fun a e => ?_⟩
      cases e
      exact ⟨o, I.kIn _ o hk, hd⟩
    · have z : ∃ o, s.heap.get? p = some o ∧ o.ExactDict := by
        rcases hk with ⟨kvs, hk⟩ | ⟨kvs, hk⟩
        · obtain ⟨_, _, _, _, o, _, _, e, ex, _⟩ := I.hok p _ hk
          exact ⟨o, e, ex⟩
        · obtain ⟨_, _, _, _, o, _, _, e, ex, _⟩ := I.hok p _ hk
          exact ⟨o, e, ex⟩
      obtain ⟨o, e, ex⟩ := z
      refine ⟨⟨o, e, ex.1⟩, fun a e2 => ?_⟩
      cases e2
      exact ⟨o, e, ex.2.1⟩
    · obtain ⟨o, _, _, _, e, ex, _⟩ := I.hok p _ hk
      refine ⟨⟨o, e, ex.1⟩, fun a e2 => ?_⟩
      cases e2
      exact ⟨o, e, ex.2.1⟩
  | _ => exact False.elim ty
def tBM (K : PySem.W.Frag) (T : String) (r : V → List V → Hp → VK → Prop) (to : TE) (t : TA) : TE := fun σ H Q => to σ H fun x H1 => tyV K T x H1 ∧ t σ H1 fun xs H2 => r x xs H2 Q
variable {o e : Expr} {es : List Expr} {to : TE} {t : TA} {name : Str} {apos cpos : Pos} {T id : String} {r : V → List V → Hp → VK → Prop}
theorem pe_bm (pa : PlainAttrs T) (slot : Slot T name id) (hty : typeOf (.builtin id) = pure (.type "method_descriptor")) (hm : MtR X id r) (ho : PE X o to) (ha : PA X (e :: es) t)
    (hbase : attributeBase o name X.env (eval o X.env) = eval o X.env := by rfl)
    (hfew : ((backTo cpos (starEach (e :: es) X.env)).all (fun x => !x.1) && (backToKw cpos (keywordEach [] X.env)).all (fun x => x.1.isSome)
      && decide ((e :: es).length + ([] : List Keyword).length + (if ([] : List Keyword).isEmpty then 0 else 1) < 30)) = true := by rfl)
    (hline : (apos.endLine == cpos.line) = true := by rfl) (hs : starEach (e :: es) X.env = (false, eval e X.env) :: starEach es X.env := by rfl) (hplain : (backTo cpos (starEach es X.env)).any (·.1) = false := by rfl) :
    PE X (.Call (.Attribute o name apos) (e :: es) [] cpos) (tBM X.K T r to t) := by
  intro pins s σ H Q I h
  refine wpAny_Call_method_late hbase hfew hline rfl (thn (ho pins s σ H _ I h) fun v s1 ⟨x, H1, I1, r1, ty, q1⟩ => ?_)
  obtain ⟨h1, h2⟩ := tyV_is I1 r1 ty
  refine ⟨T, id, pa, slot, hty, h1, h2, ?_⟩
  have hA := ha cpos pins s1 σ H1 _ I1 q1
  rw [hs] at hA ⊢
  refine Calls.callWith_builtin (by show (false || (backTo cpos (starEach es X.env)).any (·.1)) = false; rw [hplain] <;> rfl) (Calls.evalArgs_plain ?_)
  exact thn hA fun us s2 ⟨vs, H2, I2, r2, q2⟩ => hm pins s2 σ H2 x vs v us Q I2 r1 r2 q2
end
end L2
namespace L2
open PySem PySem.Spec PyProof.Rows
def MtM (X : Cx) (id : String) (r : V → List V → Hp → VK → Prop) : Prop :=
  ∀ (pins : List (Addr × Obj)) (s : Shared) (σ : St) (H : Hp) (x : V) (xs : List V) (v : Value) (us : List Value) (Q : VK), Inv X pins σ H s → RelV x v → Vals xs us → r x xs H Q →
    wpAny (model X.prog X.w) X.A (call (.builtin id) (v :: us)) (EP X pins σ Q) X.xe s
theorem Vals.one : ∀ {x : V} {us : List Value}, Vals [x] us → ∃ u, us = [u] ∧ RelV x u
  | _, _, .cons r .nil => ⟨_, rfl, r⟩
section
variable {X : Cx} {pins : List (Addr × Obj)} {σ : St} {H : Hp} {s : Shared} {l b : Addr} {xs ys zs : List V}
theorem Inv.lset {its its' : List Value} {n : Nat} {f : Array Value → Array Value} {t' : Nat} (I : Inv X pins σ H s) (hH : H l = some (.lst xs))
    (e : s.heap.get? l = some { cls := .type "list", data := .seq its.toArray n }) (hf : f its.toArray = its'.toArray) (hv : Vals ys its') (hz : ys.length ≤ sizeLine) :
    Inv X pins σ (upd H l (.lst ys)) { s with heap := s.heap.update l (Obj.mapSeq f), toks := t' } := by
  have q := PySem.IsL.update e f
  rw [hf] at q
  refine I.write (x := l) (e := l) (by rw [hH]; exact trivial) (.inl rfl) (fun b' u hb hu => (Heap.get?_update_other s.heap (Obj.mapSeq f) (Ne.symm hb)).trans hu) ⟨_, q⟩ ?_
  exact ⟨hz, its', _, hv, q⟩
theorem Inv.lnew {its : List Value} {t' : Nat} (I : Inv X pins σ H s) (hv : Vals ys its) (hz : ys.length ≤ sizeLine) :
    Inv X pins σ (upd H s.heap.objs.size (.lst ys)) { s with heap := s.heap.push { cls := .type "list", data := .seq its.toArray }, toks := t' } :=
  I.laid (fun _ _ q => Heap.get?_push_of_some _ q) (Nat.le_refl _) ⟨hz, its, 0, hv, Heap.get?_push_size _ rfl⟩
theorem Inv.fresh (I : Inv X pins σ H s) : H s.heap.objs.size = none := I.hok.fresh (Nat.le_refl _)
theorem Inv.lstM (I : Inv X pins σ H s) (hH : H l = some (.lst xs)) : xs.length ≤ sizeLine ∧ ∃ (its : List Value) (n : Nat), Vals xs its ∧ xs.length = its.length ∧ s.heap.get? l = some { cls := .type "list", data := .seq its.toArray n } := by
  obtain ⟨z, its, n, r, e⟩ := I.hok l _ hH
  exact ⟨z, its, n, r, r.length, e⟩
theorem notLongL {n : Nat} (h : n ≤ sizeLine) : Builtin.List.listTooLong n = false := by
  unfold Builtin.List.listTooLong
  exact decide_eq_false (by omega)
end
section
variable {X : Cx}
def rAppend : V → List V → Hp → VK → Prop := fun x vs H Q => ∃ l xs y, x = .ref l ∧ vs = [y] ∧ H l = some (.lst xs) ∧ xs.length < sizeLine ∧ Q .non (upd H l (.lst (xs ++ [y])))
theorem mt_append : MtM X "list.append" rAppend := by
  intro pins s σ H x vs v us Q I rx rv h
  obtain ⟨l, xs, y, rfl, rfl, hH, hz, q⟩ := h
  cases rx
  obtain ⟨u, rfl, ru⟩ := rv.one
  obtain ⟨z, its, n, r, hl, e⟩ := I.lstM hH
  refine call_meets F.slot_list_append ⟨_, e, rfl⟩ F.entry_list_append (F.args_list_append_2 _ _) (PySem.list_append l its.toArray n u (by rw [List.size_toArray]; omega)) ⟨e, ?_⟩
  refine ⟨.non, _, I.lset (its' := its ++ [u]) hH e (by simp) (r.append (.cons ru .nil)) ?_, rfl, q⟩
  rw [List.length_append, List.length_singleton]
  omega
def rExtend : V → List V → Hp → VK → Prop := fun x vs H Q => ∃ l b xs zs, x = .ref l ∧ vs = [.ref b] ∧ H l = some (.lst xs) ∧ H b = some (.lst zs) ∧ xs.length + zs.length ≤ sizeLine ∧ Q .non (upd H l (.lst (xs ++ zs)))
theorem mt_extend : MtM X "list.extend" rExtend := by
  intro pins s σ H x vs v us Q I rx rv h
  obtain ⟨l, b, xs, zs, rfl, rfl, hH, hB, hz, q⟩ := h
  cases rx
  obtain ⟨u, rfl, ru⟩ := rv.one
  cases ru
  obtain ⟨z, its, n, r, hl, e⟩ := I.lstM hH
  obtain ⟨z2, its2, n2, r2, hl2, e2⟩ := I.lstM hB
  have hsz : its.toArray.size + its2.toArray.size ≤ sizeLine := by rw [List.size_toArray, List.size_toArray]; omega
  have hlong : ¬ (!its.toArray.isEmpty && Builtin.List.listTooLong (its.toArray.size + its2.toArray.size)) = true := by
    rw [notLongL hsz, Bool.and_false]
    exact Bool.false_ne_true
  refine call_meets F.slot_list_extend ⟨_, e, rfl⟩ F.entry_list_extend (F.args_list_extend_2 _ _)
    (AutoSeq1.list_extend_list_list_0 l its.toArray n b its2.toArray n2 hlong (by rw [List.size_toArray]; omega) (by omega)) ⟨e, e2, ?_⟩
  refine ⟨.non, _, I.lset (its' := its ++ its2) hH e (by simp) (r.append r2) ?_, rfl, q⟩
  rw [List.length_append]
  omega
def rCat : R2 := fun x y H Q => ∃ l b xs zs, x = .ref l ∧ y = .ref b ∧ H l = some (.lst xs) ∧ H b = some (.lst zs) ∧ xs.length + zs.length ≤ sizeLine ∧ ∀ p, H p = none → Q (.ref p) (upd H p (.lst (xs ++ zs)))
theorem op_cat : OpR X (binaryOp .Add) rCat := by
  intro pins s σ H x y v u Q I rx ry h
  obtain ⟨l, b, xs, zs, rfl, rfl, hH, hB, hz, q⟩ := h
  cases rx
  cases ry
  obtain ⟨z, its, n, r, hl, e⟩ := I.lstM hH
  obtain ⟨z2, its2, n2, r2, hl2, e2⟩ := I.lstM hB
  refine PySem.P.add_list e e2 ?_ (by rw [List.size_toArray, List.size_toArray]; omega)
  have ea : its.toArray ++ its2.toArray = (its ++ its2).toArray := by simp
  rw [ea]
  exact ⟨.ref _, _, I.lnew (t' := s.toks) (r.append r2) (by rw [List.length_append]; omega), rfl, q _ I.fresh⟩
end
end L2
namespace L2
open PySem PySem.Spec PyProof.Rows
theorem Vals.bls : ∀ {bs : List Bool} {us : List Value}, Vals (bs.map V.bl) us → us = bs.map Value.bool
  | [], us, h => by
    rw [List.map_nil] at h
    cases h
    rfl
  | b :: bs, us, h => by
    rw [List.map_cons] at h
    cases h with
    | cons r t =>
      cases r
      rw [Vals.bls t, List.map_cons]
theorem Vals.ref1 {a : Addr} {us : List Value} (r : Vals [V.ref a] us) : us = [Value.ref a] := by
  cases r with
  | cons r t =>
    cases t
    cases r
    rfl
section
variable {X : Cx}
theorem flat_at {ys : List V} (f : ys.all flatV = true) {j : Nat} {z : V} (h : ys[j]? = some z) : flatV z = true := List.all_eq_true.mp f z (List.mem_of_getElem? h)
end
theorem iter_any {prog : Program} {w : World} {A : Around} {E : Value → Shared → Prop} {s : Shared} {l : Addr} {items : Array Value} {Q : Value → Shared → Prop} (hl : s.heap.IsList l items)
    (h : ∀ s₂ : Shared, s₂ = { s with heap := s.heap.push { cls := .type "list_iterator", data := .fields #[.ref l, .int 0 0] } } →
      (s₂.heap.IsListIter s.heap.objs.size l 0 ∧ s₂.heap.IsList l items) → l ≠ s.heap.objs.size → Q (.ref s.heap.objs.size) s₂) : wpAny (model prog w) A (pyIter (.ref l)) Q E s := by
  have hlt : l < s.heap.objs.size := by obtain ⟨_, e, _⟩ := hl; exact Heap.lt_size e
  exact wpAny_pyIter_list hl (h _ rfl ⟨⟨_, Heap.get?_push_size _ rfl, rfl, rfl⟩, hl.push _⟩ (Nat.ne_of_lt hlt))
theorem truth_bools {prog : Program} {w : World} {A : Around} {bs : List Bool} {its : List Value} (e : its = bs.map Value.bool) :
    TruthOf prog w A (fun i v => its.toArray[i]? = some v) (fun i => bs.getD i false) := fun i v s Q E hv hq => by
  have hv' : its[i]? = some v := by simpa using hv
  rw [e, List.getElem?_map] at hv'
  obtain ⟨b, hb, rfl⟩ := Option.map_eq_some_iff.mp hv'
  have hg : bs.getD i false = b := by rw [List.getD_eq_getElem?_getD, hb] <;> rfl
  have hq' : Q (bs.getD i false) s := hq
  rw [hg] at hq'
  exact wpAny_truthy_bool hq'
theorem any_range : ∀ bs : List Bool, (List.range bs.length).any (fun i => bs.getD i false) = bs.any id
  | [] => rfl
  | b :: bs => by
    rw [List.length_cons, List.range_succ_eq_map, List.any_cons, List.any_map, List.any_cons, ← any_range bs]
    all_goals rfl
theorem all_range : ∀ bs : List Bool, (List.range bs.length).all (fun i => bs.getD i false) = bs.all id
  | [] => rfl
  | b :: bs => by
    rw [List.length_cons, List.range_succ_eq_map, List.all_cons, List.all_map, List.all_cons, ← all_range bs]
    all_goals rfl
section
variable {X : Cx}
def rAll (K : PySem.W.Frag) : List V → Hp → VK → Prop := fun vs H Q => ∃ (a : Addr) (bs : List Bool), vs = [V.ref a] ∧ SqL K H a (bs.map V.bl) ∧ Q (.bl (bs.all id)) H
theorem cr_all (hc : X.calm = true) : CallR X (.builtin "all") (rAll X.K) := by
  intro pins s σ H vs us Q I r h
  obtain ⟨a, bs, rfl, hs, q⟩ := h
  obtain ⟨its, rv, hl, _⟩ := I.list hs
  rw [Vals.ref1 r]
  have hb := rv.bls
  refine call_all_walk (iter_any hl.isList fun s₂ e2 st hne => ?_)
  subst e2
  refine ⟨_, _, _, _, _, _, _, rfl, Walks.list (A := X.A.in1) (I.ok.hd hc) _ a hne its.toArray, st, truth_bools hb, fun h' tk hk => ?_⟩
  refine ⟨.bl _, H, I.kept fun b o eo => hk b o (fun hmem => ?_) (Heap.get?_push_of_some _ eo), ?_, q⟩
  · rcases List.mem_cons.mp hmem with e1 | hmem
    · exact absurd (e1 ▸ Heap.lt_size eo) (Nat.lt_irrefl _)
    · cases hmem
  · show Value.bool _ = Value.bool _
    rw [← all_range, hb, List.size_toArray, List.length_map]
end
end L2
namespace L2
open PySem PySem.Spec PyProof.Rows
abbrev CellAt (h : Heap) (c : Addr) (v : Option Value) : Prop := h.IsCell c v
def relS (scope sc : Scope) : Scope :=
  { scope with names := scope.names.map fun (n, k) => if (k == .free && sc.kind == .function && sc.names.lookup n == some .cell) then (n, .cell) else (n, k) }
def cloFrom (cells : List (Str × Addr)) : List (Str × NameKind) → List (Str × Addr) → List (Str × Addr)
  | [], acc => acc
  | (n, k) :: r, acc => if k == .free then cloFrom cells r ((n, (cells.lookup n).getD 0) :: acc) else cloFrom cells r acc
theorem closure_loop (env : Env) (f : Str × NameKind → List (Str × Addr) → Sem (ForInStep (List (Str × Addr))))
    (hf : ∀ n k c, f (n, k) c = if k == .free then (do let a ← cellOf env n; pure (.yield ((n, a) :: c))) else pure (.yield c)) :
    ∀ (names : List (Str × NameKind)) (acc : List (Str × Addr)), (∀ y ∈ names, y.2 = .free → ∃ c, env.cells.lookup y.1 = some c) → forIn names acc f = pure (cloFrom env.cells names acc)
  | [], acc, _ => by rw [List.forIn_nil]; rfl
  | (n, k) :: r, acc, h => by
    rw [List.forIn_cons, hf]
    have ih := fun acc => closure_loop env f hf r acc fun y hy => h y (List.mem_cons_of_mem _ hy)
    unfold cloFrom
    by_cases hk : (k == NameKind.free) = true
    · rw [if_pos hk, if_pos hk]
      obtain ⟨c, hc⟩ := h (n, k) List.mem_cons_self (by simpa using hk)
      have e : cellOf env n = pure c := by unfold cellOf; rw [hc]
      rw [e]
      have e2 : (env.cells.lookup n).getD 0 = c := by rw [hc]; rfl
      rw [e2]
      exact ih _
    · rw [if_neg hk, if_neg hk]
      exact ih _
theorem closure_ok {scope : Scope} {env : Env} (h : ∀ y ∈ scope.names, y.2 = .free → ∃ c, env.cells.lookup y.1 = some c) : closureFor scope env = pure (cloFrom env.cells scope.names []) := by
  simp only [closureFor]
  rw [closure_loop env _ (fun n k c => rfl) scope.names [] h]
  rfl
theorem mem_lookup {α : Type} : ∀ {l : List (Str × α)} {n : Str} {c : α}, (n, c) ∈ l → ∃ c', l.lookup n = some c'
  | (k, v) :: r, n, c, h => by
    rw [List.lookup_cons]
    cases hb : n == k with
    | true => exact ⟨_, rfl⟩
    | false =>
      rcases List.mem_cons.mp h with e | h
      · cases e; simp at hb
      · exact mem_lookup h
theorem cloFrom_mem {cells : List (Str × Addr)} : ∀ {names : List (Str × NameKind)} {acc : List (Str × Addr)} {n : Str} {c : Addr}, (n, c) ∈ cloFrom cells names acc → (n, c) ∈ acc ∨ ((n, .free) ∈ names ∧ c = (cells.lookup n).getD 0)
  | [], _, _, _, h => .inl h
  | (m, k) :: r, acc, n, c, h => by
    unfold cloFrom at h
    split at h
    · rename_i hk
      have hk : k = .free := by simpa using hk
      rcases cloFrom_mem h with h | ⟨h1, h2⟩
      · rcases List.mem_cons.mp h with e | h
        · cases e; exact .inr ⟨hk ▸ List.mem_cons_self, rfl⟩
        · exact .inl h
      · exact .inr ⟨List.mem_cons_of_mem _ h1, h2⟩
    · rcases cloFrom_mem h with h | ⟨h1, h2⟩
      · exact .inl h
      · exact .inr ⟨List.mem_cons_of_mem _ h1, h2⟩
theorem cloFrom_acc {cells : List (Str × Addr)} : ∀ {names : List (Str × NameKind)} {acc : List (Str × Addr)} {p : Str × Addr}, p ∈ acc → p ∈ cloFrom cells names acc
  | [], _, _, h => h
  | (m, k) :: r, acc, p, h => by
    unfold cloFrom
    split
    · exact cloFrom_acc (List.mem_cons_of_mem _ h)
    · exact cloFrom_acc h
theorem cloFrom_has {cells : List (Str × Addr)} : ∀ {names : List (Str × NameKind)} {acc : List (Str × Addr)} {n : Str}, (n, .free) ∈ names → (n, (cells.lookup n).getD 0) ∈ cloFrom cells names acc
  | (m, k) :: r, acc, n, h => by
    unfold cloFrom
    rcases List.mem_cons.mp h with e | h
    · cases e
      exact cloFrom_acc List.mem_cons_self
    · split
      · exact cloFrom_has h
      · exact cloFrom_has h
theorem cells_mem : ∀ {names : List (Str × NameKind)} {h : Heap} {acc : List (Str × Addr)} {x : Str} {c : Addr}, (x, c) ∈ cellsFrom h.objs.size names acc →
    (x, c) ∈ acc ∨ ((x, .cell) ∈ names ∧ h.objs.size ≤ c ∧ CellAt (pushCells h names) c none)
  | [], _, _, _, _, h => .inl h
  | (n, k) :: r, h, acc, x, c, hm => by
    unfold cellsFrom at hm
    unfold pushCells
    split at hm
    · rename_i hk
      rw [if_pos hk]
      have hk : k = .cell := by simpa using hk
      rw [← Heap.size_push h { cls := .type "cell", data := .cell none }] at hm
      rcases cells_mem hm with hm | ⟨h1, h2, h3⟩
      · rcases List.mem_cons.mp hm with e | hm
        · cases e
          exact .inr ⟨hk ▸ List.mem_cons_self, Nat.le_refl _, _, pushCells_keeps r _ _ _ (Heap.get?_push_size _ rfl), rfl⟩
        · exact .inl hm
      · rw [Heap.size_push] at h2
        exact .inr ⟨List.mem_cons_of_mem _ h1, Nat.le_of_succ_le h2, h3⟩
    · rename_i hk
      rw [if_neg hk]
      rcases cells_mem hm with hm | ⟨h1, h2, h3⟩
      · exact .inl hm
      · exact .inr ⟨List.mem_cons_of_mem _ h1, h2, h3⟩
theorem cells_acc : ∀ {names : List (Str × NameKind)} {n : Nat} {acc : List (Str × Addr)} {p : Str × Addr}, p ∈ acc → p ∈ cellsFrom n names acc
  | [], _, _, _, h => h
  | (m, k) :: r, n, acc, p, h => by
    unfold cellsFrom
    split
    · exact cells_acc (List.mem_cons_of_mem _ h)
    · exact cells_acc h
theorem cells_has : ∀ {names : List (Str × NameKind)} {n : Nat} {acc : List (Str × Addr)} {x : Str}, (x, .cell) ∈ names → ∃ c, (x, c) ∈ cellsFrom n names acc
  | (m, k) :: r, n, acc, x, h => by
    unfold cellsFrom
    rcases List.mem_cons.mp h with e | h
    · cases e
      exact ⟨n, cells_acc List.mem_cons_self⟩
    · split
      · exact cells_has h
      · exact cells_has h
theorem cells_inj : ∀ {names : List (Str × NameKind)} {h : Heap} {acc : List (Str × Addr)} {x y : Str} {c : Addr}, (∀ p ∈ acc, p.2 < h.objs.size) → (∀ x y c, (x, c) ∈ acc → (y, c) ∈ acc → x = y) →
    (x, c) ∈ cellsFrom h.objs.size names acc → (y, c) ∈ cellsFrom h.objs.size names acc → x = y
  | [], _, _, _, _, _, _, hi, h1, h2 => hi _ _ _ h1 h2
  | (n, k) :: r, h, acc, x, y, c, hl, hi, h1, h2 => by
    unfold cellsFrom at h1 h2
    split at h1
    · rename_i hk
      rw [if_pos hk] at h2
      rw [← Heap.size_push h { cls := .type "cell", data := .cell none }] at h1 h2
      refine cells_inj (h := h.push _) (fun p hp => ?_) (fun x y c a b => ?_) h1 h2
      · rw [Heap.size_push]
        rcases List.mem_cons.mp hp with rfl | hp
        · exact Nat.lt_succ_self _
        · exact Nat.lt_succ_of_lt (hl p hp)
      · rcases List.mem_cons.mp a with e | a <;> rcases List.mem_cons.mp b with e' | b
        · cases e; cases e'; rfl
        · cases e; exact absurd (hl _ b) (Nat.lt_irrefl _)
        · cases e'; exact absurd (hl _ a) (Nat.lt_irrefl _)
        · exact hi _ _ _ a b
    · rename_i hk
      rw [if_neg hk] at h2
      exact cells_inj hl hi h1 h2
theorem newEnv_comp {M : Model} {A : Around} {E : Value → Shared → Prop} {s : Shared} {scope : Scope} {globals : Addr} {closure : List (Str × Addr)} {qual : Str} {func : Option Addr} {code : Value} {around : Env} {builtins : Addr} {Q : Env → Shared → Prop}
    (h : Q (newEnv scope s.heap.objs.size globals (cellsFrom (s.heap.objs.size + 1) scope.names closure) qual func code (some around) builtins)
      { s with heap := pushCells (s.heap.push { cls := .type "dict", data := .dict #[] }) scope.names }) :
    wpAny M A (newFunctionEnv scope globals closure [] qual func code (some around) builtins) Q E s := by
  simp only [newFunctionEnv, Option.isSome_some, if_true]
  refine wpAny_bind (wpAny_alloc ?_)
  refine wpAny_bind (wpAny_layCells _ (fun n k c => rfl) scope.names closure _ _ ?_)
  rw [show ({ s with heap := s.heap.push { cls := .type "dict", data := .dict #[] } } : Shared).heap.objs.size = s.heap.objs.size + 1 from Heap.size_push ..]
  rw [List.forIn_nil]
  exact wpAny_bind (wpAny_pure (wpAny_pure h))
theorem lookup_relS {sc : Scope} : ∀ {names : List (Str × NameKind)} {x : Str} {k : NameKind},
    (names.map fun (n, k) => if (k == NameKind.free && sc.kind == .function && sc.names.lookup n == some .cell) then (n, NameKind.cell) else (n, k)).lookup x = some k →
    ∃ k', names.lookup x = some k' ∧ (k = k' ∨ (k' = .free ∧ k = .cell))
  | [], _, _, h => by simp at h
  | (n, k₀) :: r, x, k, h => by
    have ih := @lookup_relS sc r x k
    have h' : List.lookup x ((if (k₀ == NameKind.free && sc.kind == .function && sc.names.lookup n == some .cell) = true then (n, NameKind.cell) else (n, k₀)) :: (r.map _)) = some k := h
    cases hx : x == n with
    | true =>
      simp only [List.lookup_cons, hx]
      by_cases hc : (k₀ == NameKind.free && sc.kind == .function && sc.names.lookup n == some .cell) = true
      · rw [if_pos hc] at h'
        simp only [List.lookup_cons, hx] at h'
        cases h'
        simp only [Bool.and_eq_true, beq_iff_eq] at hc
        exact ⟨k₀, rfl, .inr ⟨hc.1.1, rfl⟩⟩
      · rw [if_neg hc] at h'
        simp only [List.lookup_cons, hx] at h'
        cases h'
        exact ⟨_, rfl, .inl rfl⟩
    | false =>
      simp only [List.lookup_cons, hx]
      by_cases hc : (k₀ == NameKind.free && sc.kind == .function && sc.names.lookup n == some .cell) = true
      · rw [if_pos hc] at h'
        simp only [List.lookup_cons, hx] at h'
        exact ih h'
      · rw [if_neg hc] at h'
        simp only [List.lookup_cons, hx] at h'
        exact ih h'
structure BlkOk (N : List Str) (sc scope : Scope) (own : List (Str × Nat)) : Prop where
  kind : scope.kind = .function
  uniq : ∀ y ∈ scope.names, scope.names.lookup y.1 = some y.2
  ix : ∀ p ∈ own, N[p.2]? = some p.1
  free : ∀ y ∈ scope.names, y.2 = .free → sc.names.lookup y.1 = some .cell ∨ sc.names.lookup y.1 = some .free
  own : ∀ y ∈ scope.names, y.2 = .local ∨ y.2 = .cell → y.1 ∈ own.map (·.1) ∨ y.1 ∉ N
def wipe (σ : St) : List Nat → St
  | [] => σ
  | v :: vs => (wipe σ vs).set v none
theorem wipe_length (σ : St) : ∀ vs : List Nat, (wipe σ vs).length = σ.length
  | [] => rfl
  | v :: vs => by unfold wipe; rw [List.length_set, wipe_length σ vs]
theorem wipe_some {σ : St} {i : Nat} {x : V} : ∀ {vs : List Nat}, (wipe σ vs)[i]? = some (some x) → σ[i]? = some (some x) ∧ i ∉ vs
  | [], h => ⟨h, by simp⟩
  | v :: vs, h => by
    unfold wipe at h
    by_cases hi : v = i
    · subst hi
      by_cases hv : v < (wipe σ vs).length
      · rw [List.getElem?_set_self hv] at h; cases h
      · rw [List.getElem?_eq_none (by simpa using hv)] at h; cases h
    · rw [List.getElem?_set_ne hi] at h
      obtain ⟨h1, h2⟩ := wipe_some h
      exact ⟨h1, by simp only [List.mem_cons, not_or]; exact ⟨fun e => hi e.symm, h2⟩⟩
abbrev Cx.blk (X : Cx) (s : Shared) (H : Hp) (scope : Scope) (cenv : Env) (fp : List Addr) : Cx := { X with s_0 := s, H_0 := H, env := cenv, outer := X.stack, ex := fp, fn := fun x => scope.names.lookup x == some .cell, pn := [], xe := fun _ _ => False }
section
variable {X : Cx} {pins : List (Addr × Obj)} {σ : St} {H : Hp} {s : Shared}
theorem block_start {scope : Scope} {own : List (Str × Nat)} {fp : List Addr} (I : Inv X pins σ H s) (ok : BlkOk X.N X.env.scope scope own) (hN : X.N.Nodup) (hfp : ∀ b ∈ fp, FpOk X pins H b ∧ b < s.heap.objs.size) :
    Inv (X.blk s H scope (compEnvC scope (cellsFrom (s.heap.objs.size + 1) scope.names (cloFrom X.env.cells scope.names [])) s.heap.objs.size X.env) fp) [] (wipe σ (own.map (·.2))) H { s with heap := pushCells (s.heap.push { cls := .type "dict", data := .dict #[] }) scope.names } := by
  have hfree : ∀ y ∈ scope.names, y.2 = .free → ∃ c, X.env.cells.lookup y.1 = some c := fun y hy e => by
    rcases ok.free y hy e with k | k
    · exact I.ok.has _ (.inl k)
    · exact I.ok.has _ (.inr k)
  generalize hcenv : compEnvC scope (cellsFrom (s.heap.objs.size + 1) scope.names (cloFrom X.env.cells scope.names [])) s.heap.objs.size X.env = cenv
  have kp : ∀ b o, s.heap.get? b = some o → (pushCells (s.heap.push { cls := .type "dict", data := .dict #[] }) scope.names).get? b = some o := fun b o e => pushCells_keeps _ _ _ _ (Heap.get?_push_of_some _ e)
  have hL : cenv.locals = s.heap.objs.size := by rw [← hcenv]; rfl
  have hcl : cenv.cells = cellsFrom (s.heap.objs.size + 1) scope.names (cloFrom X.env.cells scope.names []) := by rw [← hcenv]; rfl
  have hsc : cenv.scope = relS scope X.env.scope := by rw [← hcenv]; rfl
  rw [← Heap.size_push s.heap { cls := .type "dict", data := .dict #[] }] at hcl
  have cm : ∀ {y c}, (y, c) ∈ cloFrom X.env.cells scope.names [] → X.env.cells.lookup y = some c ∧ c < s.heap.objs.size := fun {y c} hm => by
    rcases cloFrom_mem hm with hm | ⟨h1, rfl⟩
    · cases hm
    · obtain ⟨c, hc⟩ := hfree _ h1 rfl
      rw [hc]
      obtain ⟨w, z⟩ := I.cell _ _ hc
      exact ⟨rfl, z.lt⟩
  have mem : ∀ {y c}, cenv.cells.lookup y = some c → (X.env.cells.lookup y = some c ∧ c < s.heap.objs.size) ∨ (s.heap.objs.size + 1 ≤ c ∧ CellAt (pushCells (s.heap.push { cls := .type "dict", data := .dict #[] }) scope.names) c none) := fun {y c} e => by
    rw [hcl] at e
    rcases cells_mem (PySem.mem_of_lookup e) with hm | ⟨_, h2, h3⟩
    · exact .inl (cm hm)
    · rw [Heap.size_push] at h2; exact .inr ⟨h2, h3⟩
  have look : ∀ {y}, scope.names.lookup y = some .free → ∃ c, cenv.cells.lookup y = some c ∧ X.env.cells.lookup y = some c := fun {y} hl => by
    have hy : (y, NameKind.free) ∈ scope.names := PySem.mem_of_lookup hl
    obtain ⟨c', e'⟩ := mem_lookup (cells_acc (names := scope.names) (n := (s.heap.push { cls := .type "dict", data := .dict #[] }).objs.size) (cloFrom_has (cells := X.env.cells) (acc := []) hy))
    rw [← hcl] at e'
    refine ⟨c', e', ?_⟩
    rw [hcl] at e'
    rcases cells_mem (PySem.mem_of_lookup e') with hm | ⟨h1, _, _⟩
    · exact (cm hm).1
    · have := ok.uniq _ h1
      rw [hl] at this; cases this
  have okB : (X.blk s H scope cenv fp).Ok := by
    refine ⟨I.ok.mod, by show cenv.scope.kind = _; rw [hsc]; exact ok.kind, by show cenv.globals = _; rw [← hcenv]; exact I.ok.glob, by show cenv.builtins = _; rw [← hcenv]; exact I.ok.blt, by show s.heap.objs.size ≤ cenv.locals; rw [hL]; exact Nat.le_refl _,
      fun y z c e1 e2 => ?_, fun y hy => ?_, fun y c z e => ?_, I.ok.hd, I.ok.frames, .inl rfl, fun b hb => ⟨?_, fun y c e z => ?_⟩, I.bs, Nat.le_trans I.ok.bsz I.sz, fun b o e hb => ?_, fun b hb z => ?_, I.stack, I.stkFree⟩
    · have e1 : cenv.cells.lookup y = some c := e1
      have e2 : cenv.cells.lookup z = some c := e2
      rw [hcl] at e1 e2
      refine cells_inj (fun p hp => ?_) (fun y z c a b => I.ok.inj y z c (cm a).1 (cm b).1) (PySem.mem_of_lookup e1) (PySem.mem_of_lookup e2)
      rw [Heap.size_push]
      exact Nat.lt_succ_of_lt (cm (y := p.1) (c := p.2) hp).2
    · show ∃ c, cenv.cells.lookup y = some c
      have key : ∀ k, cenv.kindOf y = some k → (k = .cell ∨ k = .free) → ∃ c, cenv.cells.lookup y = some c := fun k hk hk' => by
        unfold Env.kindOf at hk
        rw [hsc] at hk
        obtain ⟨k', e, r⟩ := lookup_relS hk
        have : k' = .cell ∨ k' = .free := by
          rcases r with rfl | ⟨rfl, _⟩
          · exact hk'
          · exact .inr rfl
        rcases this with rfl | rfl
        · obtain ⟨c, hm⟩ := cells_has (n := (s.heap.push { cls := .type "dict", data := .dict #[] }).objs.size) (acc := cloFrom X.env.cells scope.names []) (PySem.mem_of_lookup e)
          obtain ⟨c', e'⟩ := mem_lookup hm
          exact ⟨c', by rw [hcl]; exact e'⟩
        · obtain ⟨c, h1, _⟩ := look e
          exact ⟨c, h1⟩
      rcases hy with hy | hy
      · exact key _ hy (.inl rfl)
      · exact key _ hy (.inr rfl)
    · have z : (scope.names.lookup y == some NameKind.cell) = true := z
      have z : scope.names.lookup y = some .cell := by simpa using z
      have e : cenv.cells.lookup y = some c := e
      rw [hcl] at e
      rcases cells_mem (PySem.mem_of_lookup e) with hm | ⟨_, h2, _⟩
      · rcases cloFrom_mem hm with hm | ⟨h1, _⟩
        · cases hm
        · have q := ok.uniq _ h1
          rw [z] at q; cases q
      · rw [Heap.size_push] at h2
        exact Nat.le_of_succ_le h2
    · show b ≠ cenv.locals
      rw [hL]; exact Nat.ne_of_lt (hfp b hb).2
    · have e : cenv.cells.lookup y = some c := e
      rcases mem e with ⟨h1, _⟩ | ⟨h1, _⟩
      · exact (hfp b hb).1.2.2.2.2.1 y c h1 z
      · have h2 : s.heap.objs.size + 1 ≤ b := by rw [← z]; exact h1
        exact absurd (Nat.lt_of_lt_of_le (hfp b hb).2 (Nat.le_of_succ_le h2)) (Nat.lt_irrefl _)
    · rcases (hfp b hb).1.2.2.2.1 with z | z
      · exact I.ok.noex b o e z
      · exact absurd (Nat.lt_of_lt_of_le (Heap.lt_size e) (Nat.le_trans I.ok.bsz z)) (Nat.lt_irrefl _)
    · rcases List.mem_cons.mp (I.stkSub b z) with z | z
      · exact (hfp b hb).1.2.1 z
      · exact (hfp b hb).1.2.2.1 z
  refine ⟨okB, rfl, I.bare, Un.kept kp, ⟨fun _ => none, ?_, fun i y av e1 e2 e3 => ?_⟩, fun y c e => ?_, ?_, fun y c e => ?_, fun p hp => ?_, I.hok.kept kp, by rw [wipe_length]; exact I.len⟩
  · show Heap.Ns _ cenv.locals _
    rw [hL]
    exact Heap.Ns.keeps (Heap.Ns.new ..) fun b o e => pushCells_keeps _ _ _ _ e
  · obtain ⟨e2, hne⟩ := wipe_some e2
    have hfr : scope.names.lookup y = some .free ∧ (cenv.kindOf y = some .cell ∨ cenv.kindOf y = some .free) := by
      have key : ∀ k, cenv.scope.names.lookup y = some k → k = .local ∨ k = .cell ∨ k = .free → scope.names.lookup y = some .free ∧ (cenv.kindOf y = some .cell ∨ cenv.kindOf y = some .free) := fun k hk hk' => by
        have hk0 := hk
        rw [hsc] at hk
        obtain ⟨k', e, r⟩ := lookup_relS hk
        have no : ¬ (k' = .local ∨ k' = .cell) := fun hh => by
          rcases ok.own _ (PySem.mem_of_lookup e) hh with e' | e'
          · obtain ⟨p, hp, hpy⟩ := List.mem_map.mp e'
            have e3 := ok.ix p hp
            have : p.1 = y := hpy
            rw [this] at e3
            exact hne (List.mem_map.mpr ⟨p, hp, nodup_ix hN e3 e1⟩)
          · exact e' (List.mem_of_getElem? e1)
        rcases r with rfl | ⟨rfl, rfl⟩
        · rcases hk' with rfl | rfl | rfl
          · exact absurd (.inl rfl) no
          · exact absurd (.inr rfl) no
          · exact ⟨e, .inr hk0⟩
        · exact ⟨e, .inl hk0⟩
      have e3 : Vis cenv.scope y := e3
      rcases e3 with e3 | e3 | e3
      · exact key _ e3 (.inl rfl)
      · exact key _ e3 (.inr (.inl rfl))
      · exact key _ e3 (.inr (.inr rfl))
    obtain ⟨m, hn, hl⟩ := I.loc
    have hvis : Vis X.env.scope y := (ok.free _ (PySem.mem_of_lookup hfr.1) rfl).elim (fun k => .inr (.inl k)) (fun k => .inr (.inr k))
    obtain ⟨w, r, q⟩ := hl i y av e1 e2 hvis
    refine ⟨w, r, .inr ⟨hfr.2, ?_⟩⟩
    obtain ⟨c, h1, h2⟩ := look hfr.1
    rcases q with ⟨k, _⟩ | ⟨_, c', e', z⟩
    · have k : X.env.scope.names.lookup y = some .local := k
      rcases ok.free _ (PySem.mem_of_lookup hfr.1) rfl with k' | k' <;> rw [show X.env.scope.names.lookup y = _ from k'] at k <;> cases k
    · rw [h2] at e'; cases e'
      exact ⟨c, h1, z.keeps kp⟩
  · have e : cenv.cells.lookup y = some c := e
    rcases mem e with ⟨h1, _⟩ | ⟨_, z⟩
    · obtain ⟨w, z⟩ := I.cell y c h1
      exact ⟨w, z.keeps kp⟩
    · exact ⟨_, z⟩
  · show H cenv.locals = none
    rw [hL]; exact I.hok.fresh (Nat.le_refl _)
  · have e : cenv.cells.lookup y = some c := e
    rcases mem e with ⟨h1, _⟩ | ⟨h1, _⟩
    · exact I.freeC y c h1
    · exact I.hok.fresh (Nat.le_of_succ_le h1)
  · exact absurd (show p ∈ ([] : List (Addr × Obj)) ++ [] from hp) (by simp)
theorem app_ok {E : Value → Shared → Prop} {D : Addr} {xs : List V} {y : V} {v : Value} {Q : Value → Shared → Prop} (I : Inv X pins σ H s) (hD : H D = some (.lst xs)) (hz : xs.length < sizeLine) (r : RelV y v)
    (h : ∀ s', Inv X pins σ (upd H D (.lst (xs ++ [y]))) s' → Q .none s') : wpAny (model X.prog X.w) X.A (call (.builtin "list.append") [.ref D, v]) Q E s := by
  obtain ⟨hz', its, n, ri, e⟩ := I.hok D _ hD
  have hl := ri.length
  refine append_at (hsz := by rw [List.size_toArray]; omega) e fun h' sb ho' => ?_
  refine h { s with heap := h' } (I.write (t' := s.toks) (by rw [hD]; trivial) (.inl rfl) (fun b u hb q => (sb.2 b hb).trans q) ⟨_, ho'⟩ ⟨by rw [List.length_append]; exact hz, its ++ [v], n + 1, ri.append (.cons r .nil), ?_⟩)
  rw [ho']
  simp
def PTs (X : Cx) (ifs : List Expr) (t : TT) : Prop :=
  ∀ (pins : List (Addr × Obj)) (s : Shared) (σ : St) (H : Hp) (Q : Bool → Hp → Prop), Inv X pins σ H s → t σ H Q →
    wpAny (model X.prog X.w) X.A (forIn ifs true fun c r => if r = true then do let ok ← isTrue c X.env (eval c X.env); pure (ForInStep.yield ok) else pure (ForInStep.yield r)) (TP X pins σ Q) X.xe s
def tYes : TT := fun _ H Q => Q true H
theorem pts_nil : PTs X [] tYes := fun _ _ _ H _ I h => wpAny_tests_nil ⟨H, I, h⟩
end
theorem thnF {α : Type} {t : Sem α} {Q Q' : α → Shared → Prop} {M : Model} {A : Around} {E : Value → Shared → Prop} {s : Shared} (h : wpAny M A t Q (fun _ _ => False) s) (hQ : ∀ a s, Q a s → Q' a s) : wpAny M A t Q' E s := wpAny_mono h hQ fun _ _ z => False.elim z
theorem compLoop_any {prog : Program} {w : World} {A : Around} {R : Result → Shared → Prop} {s : Shared} {elt target iter : Expr} {ifs : List Expr} {scope : Scope} {pos : Pos} {it acc : Value} {env : Env} (I : Nat → Shared → Prop)
    (turn : ∀ n s, I n s → wpAny (model prog w) A (pyNext it) (fun r s₁ => match r with
      | none => R (.ok .next) s₁
      | some v => wpAny (model prog w) A (letOwnedTupleGo target it v) (fun _ s₁' => wpAny (model prog w) A (assign target env v) (fun _ s₂ =>
          wpAny (model prog w) A (forIn ifs true fun c r => if r = true then do let ok ← isTrue c env (eval c env); pure (ForInStep.yield ok) else pure (ForInStep.yield r)) (fun ok s₃ =>
            if ok = true then wpAny (model prog w) A (eval elt env) (fun x s₄ =>
              wpAny (model prog w) A (call (.builtin "list.append") [acc, x]) (fun _ s₅ => ∃ m, m < n ∧ I m s₅) (notedBy (model prog w) A env fun e s' => R (.error e) s') s₄) (notedBy (model prog w) A env fun e s' => R (.error e) s') s₃
            else ∃ m, m < n ∧ I m s₃) (notedBy (model prog w) A env fun e s' => R (.error e) s') s₂) (notedBy (model prog w) A env fun e s' => R (.error e) s') s₁') (notedBy (model prog w) A env fun e s' => R (.error e) s') s₁) (notedBy (model prog w) A env fun e s' => R (.error e) s') s)
    (n : Nat) (h : I n s) :
    codeAny (model prog w) A (.compLoop (.ListComp elt [⟨target, iter, ifs, 0⟩] scope pos) 0 it acc env) R s := by
  refine codeAny_loop rfl I (fun n s hI => ?_) n h
  show wpAny _ A ((compTurn (.ListComp elt [⟨target, iter, ifs, 0⟩] scope pos) 0 it acc env).onRaise (fun x => do noteFrame x env; theTreesLotGoes x)) _ _ s
  refine wpAny_noted ?_
  rw [compTurn_list]
  refine wpAny_bind (wpAny_standAt (wpAny_bind (wpAny_mono (turn n s hI) (fun r s₁ h₁ => ?_) fun _ _ h' => h')))
  cases r with
  | none => exact wpAny_pure h₁
  | some v =>
    refine wpAny_bind (wpAny_mono h₁ (fun _ s₁' h₁' => ?_) fun _ _ h' => h')
    refine wpAny_bind (wpAny_mono h₁' (fun _ s₂ h₂ => wpAny_bind (wpAny_mono h₂ (fun ok s₃ h₃ => ?_) fun _ _ h' => h')) fun _ _ h' => h')
    cases ok with
    | false => exact wpAny_pure ⟨rfl, h₃⟩
    | true =>
      exact wpAny_bind (wpAny_bind (wpAny_mono h₃ (fun x s₄ h₄ => wpAny_bind (wpAny_mono h₄ (fun _ s₅ h₅ => wpAny_pure (wpAny_pure ⟨rfl, h₅⟩)) fun _ _ h' => h')) fun _ _ h' => h'))
section
variable {X : Cx}
def tLc (wi : TI) (g : TG) (tt : TT) (te : TE) (vs : List Nat) : TE := fun σ H Q => wi σ H fun J H1 => ∀ D, H1 D = none → ∃ W : Nat → Nat → Hp → Prop, (∃ m, W 0 m (upd H1 D (.lst []))) ∧ ∀ i m H, W i m H →
  (J.stop i H ∧ Q (.ref D) H) ∨ (J.go i H ∧ ∃ Nx : Hp → Prop, (∀ H', Nx H' → ∃ m', m' < m ∧ W (i + 1) m' H') ∧ ∀ x H', J.yld i H x H' → g x (wipe σ vs) H' fun σ2 H2 => wipe σ2 vs = wipe σ vs ∧ tt σ2 H2 fun b H3 =>
    if b = true then te σ2 H3 fun y H4 => ∃ acc, H4 D = some (.lst acc) ∧ acc.length < sizeLine ∧ Nx (upd H4 D (.lst (acc ++ [y]))) else Nx H3)
theorem lc_core {pins : List (Addr × Obj)} {s : Shared} {σ : St} {H : Hp} {Q : VK} {elt tg iter : Expr} {ifs : List Expr} {scope : Scope} {own : List (Str × Nat)} {pos pos' : Pos} {wi : TI} {g : TG} {tt : TT} {te : TE} {use : Option (Value → Sem Unit)} {Qf : Value → Shared → Prop}
    (hc : X.calm = true) (hN : X.N.Nodup) (I : Inv X pins σ H s) (hi : PI X tg iter wi) (ok : BlkOk X.N X.env.scope scope own)
    (hg : ∀ (s : Shared) (H : Hp) (C : Addr) (cl : List (Str × Addr)) (fp : List Addr), PG (X.blk s H scope (compEnvC scope cl C X.env) fp) tg g) (ht : ∀ (s : Shared) (H : Hp) (C : Addr) (cl : List (Str × Addr)) (fp : List Addr), PTs (X.blk s H scope (compEnvC scope cl C X.env) fp) ifs tt)
    (he : ∀ (s : Shared) (H : Hp) (C : Addr) (cl : List (Str × Addr)) (fp : List Addr), PE (X.blk s H scope (compEnvC scope cl C X.env) fp) elt te) (hs : ∀ x, foldedSetIterable iter X.env x = pure x)
    (h : tLc wi g tt te (own.map (·.2)) σ H Q)
    (hRR : ∀ D C s' m H', Inv X pins σ H' s' → Q (.ref D) H' → s'.heap.Ns C m → FpOk X pins H' C → compPost (model X.prog X.w) X.A X.xe use Qf (.ref D) C (.ok .next) s') :
    wpAny (model X.prog X.w) X.A (comprehension (.ListComp elt [⟨tg, iter, ifs, 0⟩] scope pos) scope X.env pos' (newList []) false (eval iter X.env) use) Qf X.xe s := by
  have hfree : ∀ y ∈ scope.names, y.2 = .free → ∃ c, X.env.cells.lookup y.1 = some c := fun y hy e => by
    rcases ok.free y hy e with k | k
    · exact I.ok.has _ (.inl k)
    · exact I.ok.has _ (.inr k)
  refine wpAny_comprehension_free (use := use) rfl hs (closure_ok hfree) ok.kind (fun y hy e => by rw [ok.uniq y hy, e])
    (thn (hi pins s σ H _ I h) fun xv s1 hx => thn hx fun itv s2 h2 => ?_)
  obtain ⟨it, fp, tn, J, H2, e, I2, T, st2, f2, q⟩ := h2
  subst e
  refine wpAny_newObj_type (newEnv_comp ?_) (by show 0 ≤ sizeLine; decide)
  generalize hD : s2.heap.objs.size = D
  have hDn : H2 D = none := I2.hok.fresh (Nat.le_of_eq hD)
  obtain ⟨W, ⟨m0, w0⟩, turn⟩ := q D hDn
  generalize hs3 : ({ s2 with heap := s2.heap.push { cls := .type "list", data := .seq ([] : List Value).toArray } } : Shared) = s3
  have I3 : Inv X pins σ (upd H2 D (.lst [])) s3 := by
    rw [← hs3]
    refine I2.laid (t' := s2.toks) (fun b o e => Heap.get?_push_of_some _ e) (Nat.le_of_eq hD) ⟨Nat.zero_le _, [], 0, .nil, ?_⟩
    rw [← hD]
    exact Heap.get?_push_size _ rfl
  have h3 : s3.heap = s2.heap.push { cls := .type "list", data := .seq ([] : List Value).toArray } := by rw [← hs3]
  have sz : ∀ b ∈ fp, b < s2.heap.objs.size := fun b hb => by
    obtain ⟨o, e, _⟩ := T.obj _ _ st2 b hb
    exact Heap.lt_size e
  have f3 : ∀ b ∈ fp, FpOk X pins (upd H2 D (.lst [])) b ∧ b < s3.heap.objs.size := fun b hb => by
    have hlt := sz b hb
    refine ⟨⟨?_, (f2 b hb).2⟩, by rw [h3, Heap.size_push]; exact Nat.lt_succ_of_lt hlt⟩
    rw [upd_ne (by rw [← hD]; exact Nat.ne_of_lt hlt)]
    exact (f2 b hb).1
  have st3 : tn 0 s3.heap := T.keep _ _ _ st2 fun b _ o e => by rw [h3]; exact Heap.get?_push_of_some _ e
  have I4 := block_start I3 ok hN f3
  have pg := hg s3 (upd H2 D (.lst [])) s3.heap.objs.size (cellsFrom (s3.heap.objs.size + 1) scope.names (cloFrom X.env.cells scope.names [])) fp
  have pt := ht s3 (upd H2 D (.lst [])) s3.heap.objs.size (cellsFrom (s3.heap.objs.size + 1) scope.names (cloFrom X.env.cells scope.names [])) fp
  have pe := he s3 (upd H2 D (.lst [])) s3.heap.objs.size (cellsFrom (s3.heap.objs.size + 1) scope.names (cloFrom X.env.cells scope.names [])) fp
  show codeAny _ _ (.compStart (.ListComp elt [⟨tg, iter, ifs, 0⟩] scope pos) 0 (.ref it) (.ref D) (compEnvC scope (cellsFrom (s3.heap.objs.size + 1) scope.names (cloFrom X.env.cells scope.names [])) s3.heap.objs.size X.env)) (compPost (model X.prog X.w) X.A X.xe use Qf (.ref D) s3.heap.objs.size) { s3 with heap := pushCells (s3.heap.push { cls := .type "dict", data := .dict #[] }) scope.names }
  have nfp : ∀ b ∈ fp, (upd H2 D (.lst [])) b = none := fun b hb => (f3 b hb).1.1
  generalize hce : compEnvC scope (cellsFrom (s3.heap.objs.size + 1) scope.names (cloFrom X.env.cells scope.names [])) s3.heap.objs.size X.env = ce at I4 pg pt pe ⊢
  have cL : ce.locals = s3.heap.objs.size := by subst hce; rfl
  generalize hH3 : upd H2 D (.lst []) = H3 at I3 I4 pg pt pe w0 nfp f3
  generalize hs4 : ({ s3 with heap := pushCells (s3.heap.push { cls := .type "dict", data := .dict #[] }) scope.names } : Shared) = s4 at I4 ⊢
  have st4 : tn 0 s4.heap := T.keep _ _ _ st3 fun b _ o e => by rw [← hs4]; exact pushCells_keeps _ _ _ _ (Heap.get?_push_of_some _ e)
  have stat : ∀ {σ' : St} {H' : Hp} {s' : Shared}, Inv (X.blk s3 H3 scope ce fp) [] σ' H' s' → (∀ b ∈ fp, H' b = none) → ∀ b ∈ fp, FpOk (X.blk s3 H3 scope ce fp) [] H' b := fun {σ' H' s'} I' hn b hb =>
    ⟨hn b hb, (I'.ok.exf b hb).1, I'.ok.exfs b hb, .inl hb, fun x c e => (I'.ok.exf b hb).2 x c e, fun p hp => absurd (show p ∈ ([] : List (Addr × Obj)) ++ [] from hp) (by simp)⟩
  have loop : codeAny (model X.prog X.w) X.A (.compLoop (.ListComp elt [⟨tg, iter, ifs, 0⟩] scope pos) 0 (.ref it) (.ref D) ce) (compPost (model X.prog X.w) X.A X.xe use Qf (.ref D) s3.heap.objs.size) s4 := by
    refine compLoop_any (fun n s' => ∃ i H', Inv (X.blk s3 H3 scope ce fp) [] (wipe σ (own.map (·.2))) H' s' ∧ tn i s'.heap ∧ (∀ b ∈ fp, H' b = none) ∧ W i n H') ?_ m0 ⟨0, H3, I4, st4, nfp, w0⟩
    rintro n s5 ⟨i, H5, I5, st5, n5, w5⟩
    rcases turn i n H5 w5 with ⟨stop, qq⟩ | ⟨go, Nx, hNx, step⟩
    · have td := T.done (X.blk s3 H3 scope ce fp) rfl rfl rfl hc i [] s5 _ H5 (fun _ _ => False) I5 (stat I5 n5) st5 stop
      refine thnF td fun r s6 ⟨hr, I6⟩ => ?_
      subst hr
      have I7 : Inv X pins σ H5 s6 := I3.call' (ch := fp) I6.os I6.base I6.hok I6.bare fun b hb => ⟨(f3 b hb).1.2.2.2.1, (f3 b hb).1.2.1, (f3 b hb).1.2.2.2.2.1, (f3 b hb).1.2.2.2.2.2⟩
      have nC : H5 s3.heap.objs.size = none := by
        have z : H5 ce.locals = none := I6.free
        rw [cL] at z
        exact z
      obtain ⟨m, hn, _⟩ := I6.loc
      have hn : s6.heap.Ns ce.locals m := hn
      rw [cL] at hn
      exact hRR D s3.heap.objs.size s6 m H5 I7 qq hn (I3.fpOk (Nat.le_refl _) nC)
    · have ti := T.item (X.blk s3 H3 scope ce fp) rfl rfl rfl hc i [] s5 _ H5 (fun _ _ => False) I5 (stat I5 n5) st5 go
      refine thnF ti fun r s6 ⟨u, hr, h6⟩ => ?_
      subst hr
      refine thnF h6 fun _ s7 ⟨x, H7, I7, r7, y7, st7, n7⟩ => ?_
      have I7' := I7.pinned (stat I7 n7) (T.obj _ _ st7)
      refine thnF (pg _ s7 _ H7 x u _ I7' r7 (step x H7 y7)) fun _ s8 ⟨σ8, H8, I8, hw8, q8⟩ => ?_
      refine thnF (pt _ s8 σ8 H8 _ I8 q8) fun b s9 ⟨H9, I9, q9⟩ => ?_
      have fin : ∀ {s' : Shared} {H' : Hp}, Inv (X.blk s3 H3 scope ce fp) ([] ++ pinsAt fp s7.heap) σ8 H' s' → Nx H' → ∃ m, m < n ∧ ∃ i H', Inv (X.blk s3 H3 scope ce fp) [] (wipe σ (own.map (·.2))) H' s' ∧ tn i s'.heap ∧ (∀ b ∈ fp, H' b = none) ∧ W i m H' := fun {s' H'} I' nx => by
        obtain ⟨m', hm, w'⟩ := hNx H' nx
        have pin' : ∀ b ∈ fp, ∀ o, s7.heap.get? b = some o → s'.heap.get? b = some o ∧ H' b = none := fun b hb o e =>
          let z := I'.pin (b, o) (List.mem_append_right _ (List.mem_append_right _ (mem_pinsAt hb e)))
          ⟨z.1, z.2.1⟩
        have hl : (wipe σ (own.map (·.2))).length = σ8.length := by rw [← hw8, wipe_length]
        refine ⟨m', hm, i + 1, H', (I'.unpinned (pins := [])).weak hl (fun j v e => ?_), T.keep _ _ _ st7 fun b hb o e => (pin' b hb o e).1, fun b hb => ?_, w'⟩
        · rw [← hw8] at e
          exact (wipe_some e).1
        · obtain ⟨o, e, _⟩ := T.obj _ _ st7 b hb
          exact (pin' b hb o e).2
      cases b with
      | false =>
        simp only [Bool.false_eq_true, if_false] at q9 ⊢
        exact fin I9 q9
      | true =>
        simp only [if_true] at q9 ⊢
        refine thnF (pe _ s9 σ8 H9 _ I9 q9) fun z s10 ⟨yv, H10, I10, r10, acc, hD10, hz10, nx⟩ => ?_
        exact app_ok (X := X.blk s3 H3 scope ce fp) I10 hD10 hz10 r10 fun s11 I11 => fin I11 nx
  exact codeAny_compStart_list loop (T.self X.A 0 _ _ _ st4 loop)
theorem pe_lc {elt tg iter : Expr} {ifs : List Expr} {scope : Scope} {own : List (Str × Nat)} {pos : Pos} {wi : TI} {g : TG} {tt : TT} {te : TE} (hc : X.calm = true) (hN : X.N.Nodup) (hi : PI X tg iter wi) (ok : BlkOk X.N X.env.scope scope own)
    (hg : ∀ (s : Shared) (H : Hp) (C : Addr) (cl : List (Str × Addr)) (fp : List Addr), PG (X.blk s H scope (compEnvC scope cl C X.env) fp) tg g) (ht : ∀ (s : Shared) (H : Hp) (C : Addr) (cl : List (Str × Addr)) (fp : List Addr), PTs (X.blk s H scope (compEnvC scope cl C X.env) fp) ifs tt)
    (he : ∀ (s : Shared) (H : Hp) (C : Addr) (cl : List (Str × Addr)) (fp : List Addr), PE (X.blk s H scope (compEnvC scope cl C X.env) fp) elt te) (hs : ∀ x, foldedSetIterable iter X.env x = pure x := by intro _; rfl) :
    PE X (.ListComp elt [⟨tg, iter, ifs, 0⟩] scope pos) (tLc wi g tt te (own.map (·.2))) := by
  intro pins s σ H Q I h
  rw [eval_ListComp]
  refine lc_core hc hN I hi ok hg ht he hs h fun D C s' m H' I' q hn f => ⟨m, hn, fun h'' sb => ?_⟩
  obtain ⟨f0, f1, f2, f3, f4, f5⟩ := f
  exact ⟨.ref D, H', I'.turned (t' := s'.toks) (fun b o hb e => (sb.2 b hb).trans e) f0 f1 f3 f4 f5, rfl, q⟩
end
theorem lc_range {lo : Int} {n : Nat} {g : TG} {tt : TT} {te : TE} {vs : List Nat} {σ : St} {H1 : Hp} {D : Addr} {Qd : Hp → Prop} (Pv : Nat → Hp → Prop) (h0 : Pv 0 (upd H1 D (.lst [])))
    (hs : ∀ i H, i < n → Pv i H → g (.int (lo + i)) (wipe σ vs) H fun σ2 H2 => wipe σ2 vs = wipe σ vs ∧ tt σ2 H2 fun b H3 =>
      if b = true then te σ2 H3 fun y H4 => ∃ acc, H4 D = some (.lst acc) ∧ acc.length < sizeLine ∧ Pv (i + 1) (upd H4 D (.lst (acc ++ [y]))) else Pv (i + 1) H3) (hd : ∀ H, Pv n H → Qd H) :
    ∃ W : Nat → Nat → Hp → Prop, (∃ m, W 0 m (upd H1 D (.lst []))) ∧ ∀ i m H, W i m H →
      ((Itr lo n).stop i H ∧ Qd H) ∨ ((Itr lo n).go i H ∧ ∃ Nx : Hp → Prop, (∀ H', Nx H' → ∃ m', m' < m ∧ W (i + 1) m' H') ∧ ∀ x H', (Itr lo n).yld i H x H' → g x (wipe σ vs) H' fun σ2 H2 => wipe σ2 vs = wipe σ vs ∧ tt σ2 H2 fun b H3 =>
        if b = true then te σ2 H3 fun y H4 => ∃ acc, H4 D = some (.lst acc) ∧ acc.length < sizeLine ∧ Nx (upd H4 D (.lst (acc ++ [y]))) else Nx H3) := by
  refine ⟨fun i m H => m = n - i ∧ i ≤ n ∧ Pv i H, ⟨n, by simp, Nat.zero_le _, h0⟩, ?_⟩
  rintro i m H ⟨rfl, hi, p⟩
  by_cases hlt : i < n
  · refine .inr ⟨hlt, Pv (i + 1), fun H' p' => ⟨n - (i + 1), by omega, rfl, hlt, p'⟩, fun x H' y => ?_⟩
    obtain ⟨e, y⟩ := y
    subst e y
    exact hs i _ hlt p
  · have e : i = n := by omega
    subst e
    exact .inl ⟨Nat.le_refl _, hd H p⟩
theorem lc_list {K : PySem.W.Frag} {a : Addr} {xs : List V} {g : TG} {tt : TT} {te : TE} {vs : List Nat} {σ : St} {H1 : Hp} {D : Addr} {Qd : Hp → Prop} (Pv : Nat → Hp → Prop) (h0 : Pv 0 (upd H1 D (.lst []))) (hl : ∀ i H, i ≤ xs.length → Pv i H → SqL K H a xs)
    (hs : ∀ i x H, xs[i]? = some x → Pv i H → g x (wipe σ vs) H fun σ2 H2 => wipe σ2 vs = wipe σ vs ∧ tt σ2 H2 fun b H3 =>
      if b = true then te σ2 H3 fun y H4 => ∃ acc, H4 D = some (.lst acc) ∧ acc.length < sizeLine ∧ Pv (i + 1) (upd H4 D (.lst (acc ++ [y]))) else Pv (i + 1) H3) (hd : ∀ H, Pv xs.length H → Qd H) :
    ∃ W : Nat → Nat → Hp → Prop, (∃ m, W 0 m (upd H1 D (.lst []))) ∧ ∀ i m H, W i m H →
      ((Itl K a).stop i H ∧ Qd H) ∨ ((Itl K a).go i H ∧ ∃ Nx : Hp → Prop, (∀ H', Nx H' → ∃ m', m' < m ∧ W (i + 1) m' H') ∧ ∀ x H', (Itl K a).yld i H x H' → g x (wipe σ vs) H' fun σ2 H2 => wipe σ2 vs = wipe σ vs ∧ tt σ2 H2 fun b H3 =>
        if b = true then te σ2 H3 fun y H4 => ∃ acc, H4 D = some (.lst acc) ∧ acc.length < sizeLine ∧ Nx (upd H4 D (.lst (acc ++ [y]))) else Nx H3) := by
  refine ⟨fun i m H => m = xs.length - i ∧ i ≤ xs.length ∧ Pv i H, ⟨xs.length, by simp, Nat.zero_le _, h0⟩, ?_⟩
  rintro i m H ⟨rfl, hi, p⟩
  have q := hl i H hi p
  by_cases hlt : i < xs.length
  · refine .inr ⟨⟨xs, xs[i], q, by simp [hlt]⟩, Pv (i + 1), fun H' p' => ⟨xs.length - (i + 1), by omega, rfl, hlt, p'⟩, fun x H' y => ?_⟩
    obtain ⟨e, y⟩ := y
    subst e
    exact hs i x _ (y xs q) p
  · have e : i = xs.length := by omega
    subst e
    exact .inl ⟨⟨xs, q, Nat.le_refl _⟩, hd H p⟩
def blkC (N : List Str) (sc scope : Scope) (own : List (Str × Nat)) : Bool :=
  (match scope.kind with | .function => true | _ => false) && (scope.names.all fun y => decide (scope.names.lookup y.1 = some y.2)) && (own.all fun p => decide (N[p.2]? = some p.1)) &&
    (scope.names.all fun y => match y.2 with
      | .free => (match sc.names.lookup y.1 with | some .cell => true | some .free => true | _ => false)
      | .local => decide (y.1 ∈ own.map (·.1)) || decide (y.1 ∉ N)
      | .cell => decide (y.1 ∈ own.map (·.1)) || decide (y.1 ∉ N)
      | _ => true)
theorem blkOk_by {N : List Str} {sc scope : Scope} {own : List (Str × Nat)} (h : blkC N sc scope own = true) : BlkOk N sc scope own := by
  unfold blkC at h
  simp only [Bool.and_eq_true, List.all_eq_true, decide_eq_true_eq] at h
  obtain ⟨⟨⟨h1, h2⟩, h3⟩, h4⟩ := h
  refine ⟨?_, h2, h3, fun y hy e => ?_, fun y hy e => ?_⟩
  · split at h1
    · assumption
    · cases h1
  · have q := h4 y hy
    simp only [e] at q
    split at q <;> first | exact .inl (by assumption) | exact .inr (by assumption) | cases q
  · have q := h4 y hy
    rcases e with e | e <;> (simp only [e, Bool.or_eq_true, decide_eq_true_eq] at q; exact q)
end L2
namespace L2
open PySem PySem.Spec PyProof.Rows
end L2
namespace L2
open PySem PySem.Spec PyProof.Rows
section
variable {κ : Type} [DecidableEq κ]
def valV (kvs : List (κ × V)) (k : κ) : Option V := (kvs.find? fun kv => decide (kv.1 = k)).map (·.2)
def putK (kvs : List (κ × V)) (k : κ) (v : V) : List (κ × V) :=
  if (kvs.any fun kv => decide (kv.1 = k)) = true then kvs.map (fun kv => if kv.1 = k then (kv.1, v) else kv) else kvs ++ [(k, v)]
theorem valV_pos {p : κ × V} {r : List (κ × V)} {k : κ} (e : p.1 = k) : valV (p :: r) k = some p.2 := by simp [valV, List.find?_cons, e]
theorem valV_neg {p : κ × V} {r : List (κ × V)} {k : κ} (e : ¬ p.1 = k) : valV (p :: r) k = valV r k := by simp [valV, List.find?_cons, e]
theorem valV_any (k : κ) : ∀ kvs : List (κ × V), (kvs.any fun kv => decide (kv.1 = k)) = (valV kvs k).isSome
  | [] => rfl
  | p :: r => by
    rw [List.any_cons]
    by_cases e : p.1 = k
    · simp only [valV_pos e, decide_eq_true e, Bool.true_or, Option.isSome_some]
    · rw [valV_neg e, decide_eq_false e, Bool.false_or]; exact valV_any k r
theorem valV_map (k j : κ) (y : V) : ∀ kvs : List (κ × V), valV (kvs.map fun kv => if kv.1 = k then (kv.1, y) else kv) j = (valV kvs j).map fun x => if j = k then y else x
  | [] => rfl
  | p :: r => by
    have ih := valV_map k j y r
    rw [List.map_cons]
    by_cases h : p.1 = k
    · rw [if_pos h]
      by_cases e : p.1 = j
      · rw [valV_pos (p := (p.1, y)) e, valV_pos e, Option.map_some, if_pos (e.symm.trans h)]
      · rw [valV_neg (p := (p.1, y)) e, valV_neg e, ih]
    · rw [if_neg h]
      by_cases e : p.1 = j
      · rw [valV_pos (p := p) e, valV_pos e, Option.map_some, if_neg (fun z => h (e.trans z))]
      · rw [valV_neg (p := p) e, valV_neg e, ih]
theorem valV_snoc (k j : κ) (y : V) : ∀ kvs : List (κ × V), valV kvs k = none → valV (kvs ++ [(k, y)]) j = if j = k then some y else valV kvs j
  | [], _ => by
    by_cases e : k = j
    · rw [if_pos e.symm]; exact valV_pos (p := (k, y)) e
    · rw [if_neg (fun z => e z.symm)]; exact valV_neg (p := (k, y)) e
  | p :: r, hn => by
    rw [List.cons_append]
    have hk : ¬ p.1 = k := fun z => by rw [valV_pos z] at hn; cases hn
    rw [valV_neg hk] at hn
    have ih := valV_snoc k j y r hn
    by_cases e : p.1 = j
    · rw [valV_pos e, valV_pos e, if_neg (fun z => hk (e.trans z))]
    · rw [valV_neg e, valV_neg e, ih]
theorem valV_put (kvs : List (κ × V)) (k j : κ) (y : V) : valV (putK kvs k y) j = if j = k then some y else valV kvs j := by
  unfold putK
  by_cases a : (kvs.any fun kv => decide (kv.1 = k)) = true
  · rw [if_pos a, valV_map]
    rw [valV_any] at a
    by_cases e : j = k
    · obtain ⟨x, hx⟩ := Option.isSome_iff_exists.mp a
      rw [if_pos e, e, hx, Option.map_some, if_pos rfl]
    · rw [if_neg e]
      cases valV kvs j with
      | none => rfl
      | some x => rw [Option.map_some, if_neg e]
  · rw [if_neg a]
    refine valV_snoc k j y kvs ?_
    rw [valV_any] at a
    cases q : valV kvs k with
    | none => rfl
    | some x => rw [q] at a; exact (a rfl).elim
theorem length_putK (kvs : List (κ × V)) (k : κ) (v : V) : (putK kvs k v).length ≤ kvs.length + 1 := by
  unfold putK
  split
  · rw [List.length_map]; omega
  · rw [List.length_append, List.length_cons, List.length_nil]; omega
theorem putK_new {kvs : List (κ × V)} {k : κ} (v : V) (h : valV kvs k = none) : putK kvs k v = kvs ++ [(k, v)] := by
  unfold putK
  rw [valV_any, h]
  exact if_neg (by decide)
theorem RelO.isSome_eq {o : Option V} {u : Option Value} (r : RelO o u) : o.isSome = u.isSome := by
  cases o with
  | none => cases u with
    | none => rfl
    | some _ => exact (show False from r).elim
  | some _ => cases u with
    | none => exact (show False from r).elim
    | some _ => rfl
theorem RelO.getD {o : Option V} {u : Option Value} {d : V} {d' : Value} (r : RelO o u) (rd : RelV d d') : RelV (o.getD d) (u.getD d') := by
  cases o with
  | none => cases u with
    | none => exact rd
    | some _ => exact (show False from r).elim
  | some _ => cases u with
    | none => exact (show False from r).elim
    | some _ => exact r
theorem KV.val {kvs : List (κ × V)} {vs : List (κ × Value)} (r : KV kvs vs) (k : κ) : RelO (valV kvs k) (valueAt vs k) := by
  unfold KV at r
  induction r with
  | nil => exact True.intro
  | @cons p q ps qs h t ih =>
    obtain ⟨h1, h2⟩ := h
    by_cases e : p.1 = k
    · have e' : q.1 = k := h1.symm.trans e
      have b : valueAt (q :: qs) k = some q.2 := by simp [valueAt, List.find?_cons, e']
      rw [valV_pos e, b]; exact h2
    · have e' : ¬ q.1 = k := fun z => e (h1.trans z)
      have b : valueAt (q :: qs) k = valueAt qs k := by simp [valueAt, List.find?_cons, e']
      rw [valV_neg e, b]; exact ih
theorem KV.any {kvs : List (κ × V)} {vs : List (κ × Value)} (r : KV kvs vs) (k : κ) : (kvs.any fun kv => decide (kv.1 = k)) = vs.any fun kv => decide (kv.1 = k) := by
  unfold KV at r
  induction r with
  | nil => rfl
  | cons h t ih => rw [List.any_cons, List.any_cons, ih, h.1]
theorem KV.repl {kvs : List (κ × V)} {vs : List (κ × Value)} (r : KV kvs vs) (k : κ) {y : V} {u : Value} (ry : RelV y u) :
    KV (kvs.map fun kv => if kv.1 = k then (kv.1, y) else kv) (vs.map fun kv => if kv.1 = k then (kv.1, u) else kv) := by
  unfold KV at r ⊢
  induction r with
  | nil => exact .nil
  | @cons p q ps qs h t ih =>
    rw [List.map_cons, List.map_cons]
    refine .cons ?_ ih
    obtain ⟨h1, h2⟩ := h
    by_cases e : p.1 = k
    · rw [if_pos e, if_pos (h1.symm.trans e)]; exact ⟨h1, ry⟩
    · rw [if_neg e, if_neg (fun z => e (h1.trans z))]; exact ⟨h1, h2⟩
theorem KV.put {kvs : List (κ × V)} {vs : List (κ × Value)} (r : KV kvs vs) (k : κ) {y : V} {u : Value} (ry : RelV y u) : KV (putK kvs k y) (stored vs k u) := by
  unfold putK stored
  rw [r.any k]
  by_cases e : (vs.any fun kv => decide (kv.1 = k)) = true
  · rw [if_pos e, if_pos e]; exact r.repl k ry
  · rw [if_neg e, if_neg e]; exact Paired.snoc r ⟨rfl, ry⟩
theorem KV.length {kvs : List (κ × V)} {vs : List (κ × Value)} (r : KV kvs vs) : kvs.length = vs.length := Paired.length r
end
theorem kV_is {P : Program} {w : World} {k : Key} {u : Value} (r : RelV (kV k) u) : (mixKind P w).is k u = true := by
  cases k with
  | inl i => obtain ⟨t, e⟩ := (show ∃ t, u = Value.int i t from r); subst e; exact mixKind_int P w i t
  | inr x => obtain ⟨t, e⟩ := (show ∃ t, u = Value.str x t from r); subst e; exact mixKind_str P w x t
theorem items_are {P : Program} {w : World} : ∀ {ks : List Key} {us : List Value}, Vals (ks.map kV) us → ItemsAre (mixKind P w) ks us
  | [], _, r => by rw [List.map_nil] at r; cases r; exact .nil
  | k :: ks, _, r => by
    rw [List.map_cons] at r
    cases r with
    | cons h t => exact .cons (kV_is h) (items_are t)
abbrev KT (H : Hp) : List (List Key × V) → List (List Key × Addr × Value) → Prop := Paired fun p q => p.1 = q.1 ∧ H q.2.1 = some (.tup (p.1.map kV)) ∧ RelV p.2 q.2.2
theorem KT.val {H : Hp} {kvs : List (List Key × V)} {xs : List (List Key × Addr × Value)} (r : KT H kvs xs) (k : List Key) : RelO (valV kvs k) ((atKey xs k).map (·.2)) := by
  induction r with
  | nil => exact True.intro
  | @cons p q ps qs h t ih =>
    obtain ⟨h1, _, h2⟩ := h
    by_cases e : p.1 = k
    · have e' : q.1 = k := h1.symm.trans e
      have b : atKey (q :: qs) k = some q.2 := by simp [atKey, List.find?_cons, e']
      rw [valV_pos e, b]; exact h2
    · have e' : ¬ q.1 = k := fun z => e (h1.trans z)
      have b : atKey (q :: qs) k = atKey qs k := by simp [atKey, List.find?_cons, e']
      rw [valV_neg e, b]; exact ih
theorem KT.repl {H : Hp} {kvs : List (List Key × V)} {xs : List (List Key × Addr × Value)} (r : KT H kvs xs) (k : List Key) {y : V} {u : Value} (ry : RelV y u) :
    KT H (kvs.map fun kv => if kv.1 = k then (kv.1, y) else kv) (xs.map (putAt k u)) := by
  induction r with
  | nil => exact .nil
  | @cons p q ps qs h t ih =>
    rw [List.map_cons, List.map_cons]
    refine .cons ?_ ih
    obtain ⟨h1, h2, h3⟩ := h
    unfold putAt
    by_cases e : p.1 = k
    · rw [if_pos e, if_pos (h1.symm.trans e)]; exact ⟨h1, h2, ry⟩
    · rw [if_neg e, if_neg (fun z => e (h1.trans z))]; exact ⟨h1, h2, h3⟩
theorem KT.put {H : Hp} {kvs : List (List Key × V)} {xs : List (List Key × Addr × Value)} (r : KT H kvs xs) (k : List Key) {b : Addr} {y : V} {u : Value} (hb : H b = some (.tup (k.map kV))) (ry : RelV y u) :
    KT H (putK kvs k y) (storedH xs k b u) := by
  have e : (kvs.any fun kv => decide (kv.1 = k)) = (atKey xs k).isSome := by
    rw [valV_any, (r.val k).isSome_eq, Option.isSome_map]
  unfold putK storedH
  rw [e]
  by_cases q : (atKey xs k).isSome = true
  · rw [if_pos q, if_pos q]; exact r.repl k ry
  · rw [if_neg q, if_neg q]; exact Paired.snoc r ⟨rfl, hb, ry⟩
theorem KT.keeps {H H' : Hp} {kvs : List (List Key × V)} {xs : List (List Key × Addr × Value)} (r : KT H kvs xs) (ht : ∀ b ys, H b = some (.tup ys) → H' b = some (.tup ys)) : KT H' kvs xs :=
  Paired.mapP r fun _ _ z => ⟨z.1, ht _ _ z.2.1, z.2.2⟩
section
variable {P : Program} {w : World} {H : Hp} {h : Heap} {a : Addr}
theorem rd_of {u : HO} (ok : HOk P w H h) (e : Rd H a u) : ObjOk P w H h a u := e.ok ok
theorem dk_rd {kvs : List (Key × V)} (ok : HOk P w H h) (e : Rd H a (.dK kvs)) : kvs.length ≤ sizeLine ∧ (a == sysModules) = false ∧ ∃ vs, KV kvs vs ∧ h.DictOf (mixKind P w) a vs :=
  show ObjOk P w H h a (.dK kvs) from rd_of ok e
theorem dk_of {kvs : List (Key × V)} (ok : HOk P w H h) (e : H a = some (.dK kvs)) : kvs.length ≤ sizeLine ∧ (a == sysModules) = false ∧ ∃ vs, KV kvs vs ∧ h.DictOf (mixKind P w) a vs := dk_rd ok (.inl e)
theorem key_of {ks : List Key} (ok : HOk P w H h) (e : H a = some (.tup (ks.map kV))) : (tupleKind (mixKind P w)).is h ks a := by
  obtain ⟨_, its, r, o, h1, h2, n, h3⟩ := (show ObjOk P w H h a (.tup (ks.map kV)) from ok a _ e)
  exact ⟨o, its.toArray, n, h1, h2, h3, by simpa using items_are r⟩
theorem dt_rd {kvs : List (List Key × V)} (ok : HOk P w H h) (e : Rd H a (.dT kvs)) : kvs.length ≤ sizeLine ∧ (a == sysModules) = false ∧
    ∃ xs, KT H kvs xs ∧ h.DictOfH (tupleKind (mixKind P w)) a xs := by
  obtain ⟨z, y, xs, r, o, es, ep, h1, h2, h3, h4, h5⟩ := (show ObjOk P w H h a (.dT kvs) from rd_of ok e)
  refine ⟨z, y, xs, r, o, es, ep, h1, h2, h3, h4, fun x hx => ?_, h5⟩
  have all : ∀ {l : List (List Key × V)} {m : List (List Key × Addr × Value)}, KT H l m → ∀ x ∈ m, (tupleKind (mixKind P w)).is h x.1 x.2.1 := by
    intro l m q
    induction q with
    | nil => intro x hx; exact nomatch hx
    | @cons p q ps qs hq t ih =>
      intro x hx
      rcases List.mem_cons.mp hx with e | hx
      · subst e
        exact key_of ok (by rw [← hq.1]; exact hq.2.1)
      · exact ih x hx
  exact all r x hx
theorem dt_of {kvs : List (List Key × V)} (ok : HOk P w H h) (e : H a = some (.dT kvs)) : kvs.length ≤ sizeLine ∧ (a == sysModules) = false ∧
    ∃ xs, KT H kvs xs ∧ h.DictOfH (tupleKind (mixKind P w)) a xs := dt_rd ok (.inl e)
end
def DGet (H : Hp) (a : Addr) (y : V) (r : Option V) : Prop :=
  (∃ kvs k, Rd H a (.dK kvs) ∧ y = kV k ∧ r = valV kvs k) ∨ ∃ kvs k b, Rd H a (.dT kvs) ∧ y = .ref b ∧ H b = some (.tup (k.map kV)) ∧ r = valV kvs k
def DPut (H : Hp) (a : Addr) (y v : V) (H' : Hp) : Prop :=
  (∃ kvs k, H a = some (.dK kvs) ∧ y = kV k ∧ kvs.length < sizeLine ∧ H' = upd H a (.dK (putK kvs k v))) ∨
  ∃ kvs k b, H a = some (.dT kvs) ∧ y = .ref b ∧ H b = some (.tup (k.map kV)) ∧ kvs.length < sizeLine ∧ H' = upd H a (.dT (putK kvs k v))
theorem DGet.k {H : Hp} {a : Addr} {kvs : List (Key × V)} {k : Key} (e : H a = some (.dK kvs)) : DGet H a (kV k) (valV kvs k) := .inl ⟨kvs, k, .inl e, rfl, rfl⟩
theorem DPut.k {H : Hp} {a : Addr} {kvs : List (Key × V)} {k : Key} {v : V} (e : H a = some (.dK kvs)) (hl : kvs.length < sizeLine) : DPut H a (kV k) v (upd H a (.dK (putK kvs k v))) := .inl ⟨kvs, k, e, rfl, hl, rfl⟩
section
variable {X : Cx} {pins : List (Addr × Obj)} {σ : St} {H : Hp} {s : Shared} {a : Addr} {y v : V} {u r : Value} {o : Option V} {A : Around} {E : Value → Shared → Prop}
theorem Inv.big (I : Inv X pins σ H s) : sysModules < s.heap.objs.size := by
  have h : mainGlobals < s.heap.objs.size := (I.mod.glob.keeps I.bk).lt
  exact Nat.lt_trans (by decide) h
theorem d_getItem {Q : Value → Shared → Prop} (hu : A.units + 1 < cLine) (I : Inv X pins σ H s) (g : DGet H a y (some v)) (ry : RelV y u) (h : ∀ w' s', Inv X pins σ H s' → RelV v w' → Q w' s') :
    wpAny (model X.prog X.w) A (getItem (.ref a) u) Q E s := by
  rcases g with ⟨kvs, k, e, ey, l⟩ | ⟨kvs, k, b, e, ey, eb, l⟩
  · subst ey
    obtain ⟨z, hd, vs, rel, dd⟩ := dk_rd I.hok e
    obtain ⟨w', hw, rw'⟩ := RelO.some_of (v := v) (o := valueAt vs k) (by rw [l]; exact rel.val k)
    exact wpAny_getItem_of (kV_is ry) dd.mapOf hw (h w' _ (I.tok _) rw')
  · subst ey
    cases (show u = Value.ref b from ry)
    obtain ⟨z, hd, xs, rel, dd⟩ := dt_rd I.hok e
    obtain ⟨w', hw, rw'⟩ := RelO.some_of (v := v) (o := (atKey xs k).map (·.2)) (by rw [l]; exact rel.val k)
    obtain ⟨p, hp, hp2⟩ := Option.map_eq_some_iff.mp hw
    refine wpAny_getItem_heap (tupleKind_room_in1 hu) (key_of I.hok eb) dd hp ?_
    rw [hp2]
    exact h w' _ (I.tok _) rw'
theorem d_in {Q : Value → Shared → Prop} (hu : A.units + 1 < cLine) (I : Inv X pins σ H s) (g : DGet H a y o) (ry : RelV y u) (h : ∀ s', Inv X pins σ H s' → Q (.bool o.isSome) s') :
    wpAny (model X.prog X.w) A (compareOp .In u (.ref a)) Q E s := by
  rcases g with ⟨kvs, k, e, ey, l⟩ | ⟨kvs, k, b, e, ey, eb, l⟩
  · subst ey
    obtain ⟨z, hd, vs, rel, dd⟩ := dk_rd I.hok e
    refine wpAny_in_of (kV_is ry) hd dd.mapOf ?_
    rw [← (rel.val k).isSome_eq, ← l]
    exact h _ (I.tok _)
  · subst ey
    cases (show u = Value.ref b from ry)
    obtain ⟨z, hd, xs, rel, dd⟩ := dt_rd I.hok e
    refine wpAny_in_heap (tupleKind_room_in1 hu) (key_of I.hok eb) hd dd ?_
    have q := (rel.val k).isSome_eq
    rw [Option.isSome_map] at q
    rw [← q, ← l]
    exact h _ (I.tok _)
theorem d_notIn {Q : Value → Shared → Prop} (hu : A.units + 1 < cLine) (I : Inv X pins σ H s) (g : DGet H a y o) (ry : RelV y u) (h : ∀ s', Inv X pins σ H s' → Q (.bool (!o.isSome)) s') :
    wpAny (model X.prog X.w) A (compareOp .NotIn u (.ref a)) Q E s := by
  rcases g with ⟨kvs, k, e, ey, l⟩ | ⟨kvs, k, b, e, ey, eb, l⟩
  · subst ey
    obtain ⟨z, hd, vs, rel, dd⟩ := dk_rd I.hok e
    refine wpAny_notIn_of (kV_is ry) hd dd.mapOf ?_
    rw [← (rel.val k).isSome_eq, ← l]
    exact h _ (I.tok _)
  · subst ey
    cases (show u = Value.ref b from ry)
    obtain ⟨z, hd, xs, rel, dd⟩ := dt_rd I.hok e
    refine wpAny_notIn_heap (tupleKind_room_in1 hu) (key_of I.hok eb) hd dd ?_
    have q := (rel.val k).isSome_eq
    rw [Option.isSome_map] at q
    rw [← q, ← l]
    exact h _ (I.tok _)
theorem d_write {h' : Heap} {t' : Nat} {ob : HO} (I : Inv X pins σ H s) (mu : Mut (H a)) (hs : Heap.SameBut a s.heap h') (he : ∃ q, h'.get? a = some q) (new : ObjOk X.prog X.w (upd H a ob) h' a ob) :
    Inv X pins σ (upd H a ob) { s with heap := h', toks := t' } :=
  I.write (x := a) (e := a) mu (.inl rfl) (fun b q hb z => (hs.2 b hb).trans z) he new
theorem dk_new {P : Program} {w : World} {H' : Hp} {h' : Heap} {kvs : List (Key × V)} {vs : List (Key × Value)} (z : kvs.length ≤ sizeLine) (hd : (a == sysModules) = false) (rel : KV kvs vs) (dd : h'.DictOf (mixKind P w) a vs) :
    ObjOk P w H' h' a (.dK kvs) := ⟨z, hd, vs, rel, dd⟩
theorem d_setItem {H' : Hp} {Q : Unit → Shared → Prop} (hu : A.units + 1 < cLine) (I : Inv X pins σ H s) (g : DPut H a y v H') (ry : RelV y u) (rv : RelV v r) (h : ∀ s', Inv X pins σ H' s' → Q () s') :
    wpAny (model X.prog X.w) A (setItem (.ref a) u r) Q E s := by
  rcases g with ⟨kvs, k, e, ey, l, eH⟩ | ⟨kvs, k, b, e, ey, eb, l, eH⟩
  · subst ey eH
    obtain ⟨z, hd, vs, rel, dd⟩ := dk_of I.hok e
    have hz : vs.length ≤ sizeLine := by rw [← rel.length]; exact z
    have hl : (putK kvs k v).length ≤ sizeLine := by have := length_putK kvs k v; omega
    refine wpAny_setItem_pairs (hsz := hz) (kV_is ry) dd fun h' dd' hs => h _ ?_
    have he : ∃ q, h'.get? a = some q := let ⟨q, _, _, hq, _⟩ := dd'; ⟨q, hq⟩
    exact d_write I (by rw [e]; exact True.intro) hs he (dk_new hl hd (rel.put k rv) dd')
  · subst ey eH
    cases (show u = Value.ref b from ry)
    obtain ⟨z, hd, xs, rel, dd⟩ := dt_of I.hok e
    have hz : xs.length ≤ sizeLine := by rw [← Paired.length rel]; exact z
    have hl : (putK kvs k v).length ≤ sizeLine := by have := length_putK kvs k v; omega
    refine wpAny_setItem_heap (hsz := hz) (tupleKind_room_in1 hu) (key_of I.hok eb) dd fun h' dd' hs => h _ ?_
    obtain ⟨q, es, ep, hq, h2, h3, h4, _, h5⟩ := dd'
    refine d_write I (by rw [e]; exact True.intro) hs ⟨q, hq⟩ ⟨hl, hd, _, (rel.put k eb rv).keeps fun c ys ec => ?_, q, es, ep, hq, h2, h3, h4, h5⟩
    rw [upd_ne (ne_of ec e (fun z => nomatch z))]
    exact ec
end
section
variable {X : Cx} {pins : List (Addr × Obj)} {σ : St} {H : Hp} {s : Shared} {a : Addr} {kvs : List (Key × V)} {k : Key} {u : Value} {A : Around} {E : Value → Shared → Prop}
theorem d_len {Q : Value → Shared → Prop} (I : Inv X pins σ H s) (e : Rd H a (.dK kvs)) (h : ∀ t s', Inv X pins σ H s' → Q (.int kvs.length t) s') : wpAny (model X.prog X.w) A (call (.builtin "len") [.ref a]) Q E s := by
  obtain ⟨z, hd, vs, rel, dd⟩ := dk_rd I.hok e
  refine call_len_dict hd dd (by rw [← rel.length]; rw [sizeLine_eq] at z; omega) ?_
  rw [← rel.length]
  exact h _ _ (I.tok _)
end
def NoSl (i : Expr) : Prop := ∀ ov iv, subscripted i false ov iv = operate [ov, iv] (getItem ov iv)
theorem subD_of {prog : Program} {w : World} {A : Around} {E : Value → Shared → Prop} {s : Shared} {env : Env} {value slice : Expr} {pos : Pos} {T id : String} {Q : Value → Shared → Prop}
    (hl : typeLookup (.type T) "__getitem__" = pure (some (.builtin id))) (hs : NoSl slice)
    (h : wpAny (model prog w) A (eval value env) (fun o s₁ => wpAny (model prog w) A (eval slice env) (fun i s₂ => s₂.TypeIs o T ∧ wpAny (model prog w) A (getItem o i) Q E s₂) E s₁) E s) :
    wpAny (model prog w) A (eval (.Subscript value slice pos) env) Q E s := by
  refine Subscript_ (wpAny_mono h (fun o s₁ h₁ => wpAny_mono h₁ (fun i s₂ h₂ => ?_) fun _ _ x => x) fun _ _ x => x)
  obtain ⟨hT, h₂⟩ := h₂
  unfold subscriptTail
  refine wpAny_bind ?_
  rw [getitemInPython_of_ne hT.not_modules]
  refine wpAny_bind (wpAny_specialOf hT hl ?_)
  have fin : wpAny (model prog w) A (subscripted slice false o i) (fun r s₃ => wpAny (model prog w) A (letTemporaryGo value o r >>= fun _ => pure r) Q E s₃) E s₂ := by
    rw [hs o i]
    exact wpAny_operating (wpAny_mono h₂ (fun r s₃ h₃ => wpAny_bind (wpAny_letTemporaryGo (wpAny_pure h₃))) fun _ _ x => x)
  first
    | exact wpAny_pure (wpAny_bind fin)
    | exact wpAny_bind (wpAny_pure (wpAny_bind fin))
    | exact wpAny_bind fin
theorem dict_typeIs {X : Cx} {pins : List (Addr × Obj)} {σ : St} {H : Hp} {s : Shared} {a : Addr} {y : V} {o : Option V} (I : Inv X pins σ H s) (g : DGet H a y o) : s.TypeIs (.ref a) "dict" := by
  rcases g with ⟨kvs, k, e, _, _⟩ | ⟨kvs, k, b, e, _, _, _⟩
  · obtain ⟨_, _, vs, _, dd⟩ := dk_rd I.hok e
    exact dd.typeIs
  · obtain ⟨_, _, xs, _, dd⟩ := dt_rd I.hok e
    exact dd.typeIs
def tDGet (td ty : TE) : TE := fun σ H Q => td σ H fun x H1 => ty σ H1 fun y H2 => ∃ a v, x = .ref a ∧ DGet H2 a y (some v) ∧ Q v H2
def tDIn (ty td : TE) : TE := fun σ H Q => ty σ H fun y H1 => td σ H1 fun x H2 => ∃ a o, x = .ref a ∧ DGet H2 a y o ∧ Q (.bl o.isSome) H2
def tDNotIn (ty td : TE) : TE := fun σ H Q => ty σ H fun y H1 => td σ H1 fun x H2 => ∃ a o, x = .ref a ∧ DGet H2 a y o ∧ Q (.bl (!o.isSome)) H2
def sDPut (td ty tv : TE) : TS := fun D σ H => tv σ H fun v H1 => td σ H1 fun x H2 => ty σ H2 fun y H3 => ∃ a H4, x = .ref a ∧ DPut H3 a y v H4 ∧ D.nx σ H4
section
variable {X : Cx} {o i e value : Expr} {pos pos' tpos : Pos} {td ty tv : TE}
theorem pe_dget (hu : X.A.units + 1 < cLine) (ho : PE X o td) (hi : PE X i ty) (hs : NoSl i) : PE X (.Subscript o i pos) (tDGet td ty) := by
  intro pins s σ H Q I h
  refine subD_of PySem.F.slot_dict_getitem.lookup hs (thn (ho pins s σ H _ I h) fun u s1 ⟨x, H1, I1, rx, q1⟩ => thn (hi pins s1 σ H1 _ I1 q1) fun iv s2 ⟨y, H2, I2, ry, a, v, ex, g, q2⟩ => ?_)
  subst ex
  obtain rfl : u = Value.ref a := rx
  exact ⟨dict_typeIs I2 g, d_getItem hu I2 g ry fun w' s3 I3 rw' => ⟨v, H2, I3, rw', q2⟩⟩
theorem pc_din (hu : X.A.units + 1 < cLine) (hi : PE X i ty) (ho : PE X o td) : PC X .In i o (tDIn ty td) := by
  intro pins s σ H Q I h
  refine thn (hi pins s σ H _ I h) fun iv s1 ⟨y, H1, I1, ry, q1⟩ => thn (ho pins s1 σ H1 _ I1 q1) fun u s2 ⟨x, H2, I2, rx, a, ov, ex, g, q2⟩ => ?_
  subst ex
  obtain rfl : u = Value.ref a := rx
  exact d_in hu I2 g ry fun s3 I3 => ⟨.bl ov.isSome, H2, I3, rfl, q2⟩
theorem pc_dnotin (hu : X.A.units + 1 < cLine) (hi : PE X i ty) (ho : PE X o td) : PC X .NotIn i o (tDNotIn ty td) := by
  intro pins s σ H Q I h
  refine thn (hi pins s σ H _ I h) fun iv s1 ⟨y, H1, I1, ry, q1⟩ => thn (ho pins s1 σ H1 _ I1 q1) fun u s2 ⟨x, H2, I2, rx, a, ov, ex, g, q2⟩ => ?_
  subst ex
  obtain rfl : u = Value.ref a := rx
  exact d_notIn hu I2 g ry fun s3 I3 => ⟨.bl (!ov.isSome), H2, I3, rfl, q2⟩
theorem ps_dput (hu : X.A.units + 1 < cLine) (ho : PE X o td) (hi : PE X i ty) (hv : PE X value tv) (hs : swapsWith value (some (.Subscript o i pos')) pos.line X.env = pure false) :
    PS X (.Assign [.Subscript o i pos'] value pos) (sDPut td ty tv) := by
  intro pins s σ H D I h
  refine wpAny_Assign_Subscript (thn (hv pins s σ H _ I h) fun r s1 ⟨v, H1, I1, rv, q1⟩ => thn (ho pins s1 σ H1 _ I1 q1) fun u s2 ⟨x, H2, I2, rx, q2⟩ => thn (hi pins s2 σ H2 _ I2 q2) fun iv s3 ⟨y, H3, I3, ry, a, H4, ex, g, q3⟩ => ?_) hs
  subst ex
  obtain rfl : u = Value.ref a := rx
  exact d_setItem hu I3 g ry rv fun s4 I4 => ⟨σ, H4, I4, q3⟩
end
theorem dk_empty {P : Program} {w : World} {H : Hp} (h : Heap) (hb : sysModules < h.objs.size) : ObjOk P w H (h.push { cls := .type "dict", data := .dict #[] }) h.objs.size (.dK []) :=
  ⟨Nat.zero_le _, beq_eq_false_iff_ne.mpr (Ne.symm (Nat.ne_of_lt hb)), [], .nil, Heap.DictOf.new h⟩
def tDNewK : TE := fun _ H Q => ∀ p, H p = none → Q (.ref p) (upd H p (.dK []))
section
variable {X : Cx} {pos : Pos}
theorem pe_dnewK : PE X (.Dict [] [] pos) tDNewK := fun pins s σ H Q I h =>
  wpAny_Dict_empty ⟨.ref s.heap.objs.size, _, I.laid (a := s.heap.objs.size) (o := .dK []) (t' := s.toks) (fun _ _ q => Heap.get?_push_of_some _ q) (Nat.le_refl _) (dk_empty s.heap I.big), rfl, h _ (I.hok.fresh (Nat.le_refl _))⟩
end
structure M2 (X : Cx) (o : Expr) (m : Str) (apos : Pos) (e f : Expr) (cpos : Pos) : Prop where
  base : attributeBase o m X.env (eval o X.env) = eval o X.env
  few : ((backTo cpos (starEach [e, f] X.env)).all (fun x => !x.1) && (backToKw cpos (keywordEach [] X.env)).all (fun x => x.1.isSome)
    && decide (([e, f] : List Expr).length + ([] : List Keyword).length + (if ([] : List Keyword).isEmpty then 0 else 1) < 30)) = true
  line : (apos.endLine == cpos.line) = true
  trees : backTo cpos (starEach [e, f] X.env) = [(false, eval e X.env), (false, eval f X.env)]
def IsD (H : Hp) (a : Addr) : Prop := (∃ kvs, Rd H a (.dK kvs)) ∨ ∃ kvs, Rd H a (.dT kvs)
theorem isD_at {X : Cx} {pins : List (Addr × Obj)} {σ : St} {H : Hp} {s : Shared} {a : Addr} (I : Inv X pins σ H s) (d : IsD H a) :
    s.TypeIs (.ref a) "dict" ∧ (∀ b, Value.ref a = .ref b → ∃ ob, s.heap.get? b = some ob ∧ ob.dict = none) ∧ (a == sysModules) = false := by
  rcases d with ⟨kvs, e⟩ | ⟨kvs, e⟩
  · obtain ⟨_, hd, vs, _, dd⟩ := dk_rd I.hok e
    refine ⟨dd.typeIs, fun b q => ?_, hd⟩
    cases q
    obtain ⟨ob, _, _, h1, h2, _⟩ := dd
    exact ⟨ob, h1, h2.2.1⟩
  · obtain ⟨_, hd, xs, _, dd⟩ := dt_rd I.hok e
    refine ⟨dd.typeIs, fun b q => ?_, hd⟩
    cases q
    obtain ⟨ob, _, _, h1, h2, _⟩ := dd
    exact ⟨ob, h1, h2.2.1⟩
section
variable {X : Cx} {pins : List (Addr × Obj)} {σ : St} {H : Hp} {s : Shared} {a : Addr} {y d : V} {u r : Value} {o : Option V} {A : Around} {E : Value → Shared → Prop}
theorem d_get2 {Q : Value → Shared → Prop} (hu : A.units + 1 < cLine) (I : Inv X pins σ H s) (g : DGet H a y o) (ry : RelV y u) (rd : RelV d r) (h : ∀ w' s', Inv X pins σ H s' → RelV (o.getD d) w' → Q w' s') :
    wpAny (model X.prog X.w) A (call (.builtin "dict.get") [.ref a, u, r]) Q E s := by
  rcases g with ⟨kvs, k, e, ey, l⟩ | ⟨kvs, k, b, e, ey, eb, l⟩
  · subst ey
    obtain ⟨z, hd, vs, rel, dd⟩ := dk_rd I.hok e
    refine call_meetsIn PySem.F.slot_dict_get dd.typeIs PySem.F.entry_dict_get (PySem.F.args_dict_get_3 _ _ _) (meets_dict_get_default (mixKind X.prog X.w) a (kV_is ry) hd r) ⟨_, dd.mapOf, h _ _ (I.tok _) ?_⟩
    rw [l]
    exact (rel.val k).getD rd
  · subst ey
    cases (show u = Value.ref b from ry)
    obtain ⟨z, hd, xs, rel, dd⟩ := dt_rd I.hok e
    refine call_meetsIn PySem.F.slot_dict_get dd.typeIs PySem.F.entry_dict_get (PySem.F.args_dict_get_3 _ _ _) (meetsH_dict_get_default (tupleKind (mixKind X.prog X.w)) a b hd r) ⟨tupleKind_room_in1 hu, k, xs, key_of I.hok eb, dd, h _ _ (I.tok _) ?_⟩
    rw [l]
    exact (rel.val k).getD rd
end
def tDGet2 (td ty tx : TE) : TE := fun σ H Q => td σ H fun x H1 => ∃ a, x = .ref a ∧ IsD H1 a ∧ ty σ H1 fun y H2 => tx σ H2 fun z H3 => ∃ o, DGet H3 a y o ∧ Q (o.getD z) H3
section
variable {X : Cx} {o e f : Expr} {apos cpos : Pos} {td ty tx : TE}
theorem pe_dget2 (hu : X.A.units + 1 < cLine) (ho : PE X o td) (he : PE X e ty) (hf : PE X f tx) (m : M2 X o "get" apos e f cpos) : PE X (.Call (.Attribute o "get" apos) [e, f] [] cpos) (tDGet2 td ty tx) := by
  intro pins s σ H Q I h
  refine wpAny_Call_method m.base m.few m.line PySem.F.plainAttrs_dict PySem.F.slot_dict_get PySem.F.type_dict_get (thn (ho pins s σ H _ I h) fun u s1 ⟨x, H1, I1, rx, a, ex, d, q1⟩ => ?_)
  subst ex
  obtain rfl : u = Value.ref a := rx
  obtain ⟨t1, t2, _⟩ := isD_at I1 d
  refine ⟨t1, t2, ?_⟩
  rw [m.trees]
  refine Calls.callWith_builtin rfl (Calls.evalArgs_plain (Calls.spliced_cons (thn (he pins s1 σ H1 _ I1 q1) fun iv s2 ⟨y, H2, I2, ry, q2⟩ =>
    Calls.spliced_cons (thn (hf pins s2 σ H2 _ I2 q2) fun fv s3 ⟨z, H3, I3, rz, ov, g, q3⟩ => Calls.spliced_nil ?_))))
  exact d_get2 hu I3 g ry rz fun w' s4 I4 rw' => ⟨_, H3, I4, rw', q3⟩
end
end L2
namespace L2
open PySem PySem.Spec PyProof.Rows
end L2
namespace L2
open PySem PySem.Spec PyProof.Rows
section
variable {X : Cx} {pins : List (Addr × Obj)} {σ : St} {H : Hp} {s : Shared} {h' : Heap}
theorem Inv.turnedNew {t' : Nat} {ch : List Addr} {T : Addr} {ob : HO} (I : Inv X pins σ H s) (k : ∀ b o, b ∉ ch → s.heap.get? b = some o → h'.get? b = some o) (hf : ∀ b ∈ ch, FpOk X pins H b) (hT : s.heap.objs.size ≤ T)
    (new : ObjOk X.prog X.w (upd H T ob) h' T ob) : Inv X pins σ (upd H T ob) { s with heap := h', toks := t' } := by
  have hn : H T = none := I.hok.fresh hT
  have nit : ∀ b u, H b = some u → b ∉ ch := fun b u e z => by
    have q := (hf b z).1
    rw [q] at e; cases e
  refine I.step (g' := s.gens) (d' := s.drawn) (ch := ch) (fun b hb => ⟨(hf b hb).2.2.2.1, (hf b hb).2.1, (hf b hb).2.2.2.2.1, (hf b hb).2.2.2.2.2⟩) (fun b o _ _ hc e _ => k b o hc e) (fun b o _ _ hc e _ => ⟨o.slots, k b o hc e⟩)
    (fun b o _ e n => ?_) (fun b o hc e => ⟨o, k b o hc e⟩) (fun b xs e => ?_) (fun b o u e => ?_) (fun b ps e => ⟨#[], ?_⟩) (fun m hm => ?_) (fun b u e => ?_) I.bare
  · rw [upd_ne (Nat.ne_of_lt (Nat.lt_of_lt_of_le (Heap.lt_size e) hT))]; exact n
  · rw [upd_ne (ne_of_none e hn)]; exact e
  · rw [upd_ne (ne_of_none e hn)]; exact e
  · rw [upd_ne (ne_of_none e hn), e]; simp
  · obtain ⟨o, es, ep, ho, r⟩ := hm
    exact ⟨o, es, ep, k _ o (fun z => (hf _ z).2.1 rfl) ho, r⟩
  · by_cases hb : b = T
    · subst hb
      rw [upd_same] at e
      cases e
      exact new
    · rw [upd_ne hb] at e
      refine (I.hok b u e).stay (fun c v hc q => k c v ?_ q) (fun c q => by rw [upd_ne (ne_of_none q hn)]; exact q) fun c xs q => by rw [upd_ne (ne_of_none q hn)]; exact q
      rcases hc with z | z
      · rw [z]; exact nit b u e
      · exact nit c _ z
theorem Inv.lock {d : Addr} {u : HO} (I : Inv X pins σ H s) (h : H d = some u) (mu : Mut (some u)) : ∃ od, Inv X pins σ (upd H d (.frz od u)) s := by
  have x := I.hok d u h
  have ex : ∃ od, s.heap.get? d = some od := by
    cases u with
    | lst xs => obtain ⟨_, _, _, _, e⟩ := x; exact ⟨_, e⟩
    | dK kvs => obtain ⟨_, _, _, _, o, _, _, e, _⟩ := x; exact ⟨o, e⟩
    | dT kvs => obtain ⟨_, _, _, _, o, _, _, e, _⟩ := x; exact ⟨o, e⟩
    | set S n => obtain ⟨o, _, _, _, e, _⟩ := x; exact ⟨o, e⟩
    | ins C dx fs => obtain ⟨_, _, _, e, _⟩ := x; exact ⟨_, e⟩
    | ext φ => obtain ⟨_, ⟨_, e⟩, _⟩ := x; exact ⟨_, e⟩
    | _ => exact False.elim mu
  obtain ⟨od, e⟩ := ex
  have new : ObjOk X.prog X.w (upd H d (.frz od u)) s.heap d (.frz od u) := by
    refine ⟨e, x.stay (fun b v _ q => q) (fun b q => ?_) fun b xs q => ?_⟩
    · rw [upd_ne (fun z => by rw [z, h] at q; cases q; exact mu)]; exact q
    · rw [upd_ne (fun z => by rw [z, h] at q; cases q; exact mu)]; exact q
  exact ⟨od, I.write (x := d) (e := d) (t' := s.toks) (h' := s.heap) (by rw [h]; exact mu) (.inl rfl) (fun b v _ q => q) ⟨od, e⟩ new⟩
theorem Inv.nofrz {d : Addr} {u : HO} (I : Inv X pins σ H s) (h : H d = some u) (mu : Mut (some u)) : ∀ o' u', X.H_0 d ≠ some (.frz o' u') := fun o' u' e => by
  have q := I.base.frzs d o' u' e
  rw [h] at q
  cases q
  exact mu
theorem Inv.unlock {d : Addr} {od : Obj} {u : HO} (I : Inv X pins σ H s) (h : H d = some (.frz od u)) (hn : ∀ o' u', X.H_0 d ≠ some (.frz o' u')) : Inv X pins σ (upd H d u) s := by
  have neH : ∀ b o, H b = some o → (∀ o' u', o ≠ .frz o' u') → b ≠ d := fun b o e hne z => by
    rw [z, h] at e
    cases e
    exact hne _ _ rfl
  have neN : ∀ b, H b = none → b ≠ d := fun b e z => by rw [z, h] at e; cases e
  refine ⟨I.ok, I.os, I.bare, ⟨I.base.keep, I.base.slot, fun b o e n hx => ?_, I.base.there, fun b xs e => ?_, fun b o x e => ?_, fun b ps e => ?_⟩, I.loc, I.cell, ?_, fun x c e => ?_, fun p hp => ?_, fun b o e => ?_, I.len⟩
  · rw [upd_ne (neN b (I.base.free b o e n hx))]; exact I.base.free b o e n hx
  · have q := I.base.tups b xs e
    rw [upd_ne (neH b _ q (fun _ _ z => nomatch z))]; exact q
  · have q := I.base.frzs b o x e
    rw [upd_ne (fun z => by rw [z] at e; exact hn _ _ e)]; exact q
  · obtain ⟨m, q⟩ := I.base.tbls b ps e
    exact ⟨m, by rw [upd_ne (neH b _ q (fun _ _ z => nomatch z))]; exact q⟩
  · rw [upd_ne (neN _ I.free)]; exact I.free
  · rw [upd_ne (neN c (I.freeC x c e))]; exact I.freeC x c e
  · obtain ⟨e, n, r⟩ := I.pin p hp
    exact ⟨e, by rw [upd_ne (neN _ n)]; exact n, r⟩
  · by_cases hb : b = d
    · rw [hb, upd_same] at e
      cases e
      rw [hb]
      obtain ⟨_, x⟩ := I.hok d _ h
      exact x.stay (fun c v _ q => q) (fun c q => by rw [upd_ne (neH c _ q (fun _ _ z => nomatch z))]; exact q) fun c xs q => by rw [upd_ne (neH c _ q (fun _ _ z => nomatch z))]; exact q
    · rw [upd_ne hb] at e
      exact (I.hok b o e).stay (fun c v _ q => q) (fun c q => by rw [upd_ne (neH c _ q (fun _ _ z => nomatch z))]; exact q) fun c xs q => by rw [upd_ne (neH c _ q (fun _ _ z => nomatch z))]; exact q
end
def tLock (t : TS) : TS := fun D σ H => ∃ d u, H d = some u ∧ Mut (some u) ∧ ∀ od, t ⟨fun σ' H' => H' d = some (.frz od u) ∧ D.nx σ' (upd H' d u), fun v H' => H' d = some (.frz od u) ∧ D.rt v (upd H' d u), fun σ' H' => H' d = some (.frz od u) ∧ D.bk σ' (upd H' d u), fun σ' H' => H' d = some (.frz od u) ∧ D.ct σ' (upd H' d u)⟩ σ (upd H d (.frz od u))
section
variable {X : Cx}
theorem ps_lock {st : Stmt} {t : TS} (h : PS X st t) : PS X st (tLock t) := by
  intro pins s σ H D I hw
  obtain ⟨d, u, hd, mu, hw⟩ := hw
  obtain ⟨od, I1⟩ := I.lock hd mu
  refine thn (h pins s σ _ _ I1 (hw od)) fun f s1 q => ?_
  cases f with
  | next => obtain ⟨σ', H', I2, e, q⟩ := q; exact ⟨σ', _, I2.unlock e (I.nofrz hd mu), q⟩
  | brk => obtain ⟨σ', H', I2, e, q⟩ := q; exact ⟨σ', _, I2.unlock e (I.nofrz hd mu), q⟩
  | cont => obtain ⟨σ', H', I2, e, q⟩ := q; exact ⟨σ', _, I2.unlock e (I.nofrz hd mu), q⟩
  | ret v => obtain ⟨x, σ', H', I2, r, e, q⟩ := q; exact ⟨x, σ', _, I2.unlock e (I.nofrz hd mu), r, q⟩
theorem pi_one {tg : Expr} {pins : List (Addr × Obj)} {σ : St} {H : Hp} {s : Shared} {R : It → Hp → Prop} {J : It} {tn : Nat → Heap → Prop} {tk : Nat} (I : Inv X pins σ H s) (o : Obj)
    (T : Turn X.prog X.w X.K tg J [s.heap.objs.size] s.heap.objs.size tn) (st : tn 0 (s.heap.push o)) (q : R J H) : PIE X pins σ tg R (.ref s.heap.objs.size) { s with heap := s.heap.push o, toks := tk } := by
  refine ⟨s.heap.objs.size, [s.heap.objs.size], tn, J, H, rfl, I.kept fun b ob e => Heap.get?_push_of_some _ e, T, st, fun b hb => ?_, q⟩
  have e : b = s.heap.objs.size := by simpa using hb
  subst e
  exact I.fpOk (Nat.le_refl _) (I.hok.fresh (Nat.le_refl _))
end
def Its (x : Str) : It := ⟨fun i _ => i < x.cps.size, fun i H v H' => H' = H ∧ ∃ c, x.cps[i]? = some c ∧ v = .str ⟨#[c]⟩, fun i _ => x.cps.size ≤ i⟩
theorem turn_str {P : Program} {w : World} {K : PySem.W.Frag} {tg : Expr} (it : Addr) (x : Str) (t : Tok) (ty : String) (hty : ty = "str_ascii_iterator" ∨ ty = "str_iterator") :
    Turn P w K tg (Its x) [it] it (fun i h => h.IsStrIter it ty x t i) where
  mem := by simp
  obj := fun i h st b hb => by
    have e : b = it := by simpa using hb
    subst e
    obtain ⟨o, e, c, d⟩ := st
    exact ⟨o, e, fun v z => by rw [d] at z; cases z⟩
  keep := fun i h h' st k => let ⟨o, ho, r⟩ := st; ⟨o, k it (by simp) o ho, r⟩
  item := by
    intro X hP hw hK hc i pins s σ H E I hf st hg
    subst hP hw hK
    obtain ⟨f0, f1, f2, f3, f4, f5⟩ := hf it (by simp)
    have W : Walks X.prog X.w X.A it [it] [it] x.cps.size (SignAt x) (fun i h => h.IsStrIter it ty x t i) := by
      rcases hty with e | e
      · rw [e]; exact Walks.strAscii (I.ok.hd hc) it x t
      · rw [e]; exact Walks.strWide (I.ok.hd hc) it x t
    have hno : ["enumerate", "zip", "dict_itemiterator", "dict_reverseitemiterator", "odict_iterator", "itertools.zip_longest", "itertools.pairwise"].contains ty = false := by
      rcases hty with e | e
      · rw [e]; decide
      · rw [e]; decide
    refine W.item i s _ _ hg st fun v h' tk hv st' kk => ?_
    obtain ⟨c, u, hcx, rfl⟩ := hv
    have I1 : Inv X pins σ H { s with heap := h', toks := tk } := I.turned (fun b o hb e => kk b o (by simpa using hb) e) f0 f1 f3 f4 f5
    obtain ⟨oi, e, cc, dd⟩ := id st'
    exact ⟨_, rfl, go_of (s := { s with heap := h', toks := tk }) e cc dd hno ⟨.str ⟨#[c]⟩, H, I1, ⟨u, rfl⟩, ⟨rfl, c, hcx, rfl⟩, st', fun b hb => (hf b hb).1⟩⟩
  done := by
    intro X hP hw hK hc i pins s σ H E I hf st hg
    subst hP hw hK
    obtain ⟨f0, f1, f2, f3, f4, f5⟩ := hf it (by simp)
    have hx : x.cps[i]? = none := Array.getElem?_eq_none hg
    rcases hty with e | e
    · rw [e] at st
      exact wpAny_pyNext_ascii_end (I.ok.hd hc) st hx fun h' eb => ⟨rfl, I.turned (t' := s.toks) (fun b o hb e => eb b o hb e) f0 f1 f3 f4 f5⟩
    · rw [e] at st
      exact wpAny_pyNext_wide_end (I.ok.hd hc) st hx fun h' eb => ⟨rfl, I.turned (t' := s.toks) (fun b o hb e => eb b o hb e) f0 f1 f3 f4 f5⟩
  self := fun A i s Q E st h => by
    rcases hty with e | e
    · rw [e] at st; exact wpAny_pyIter_striter_ascii st h
    · rw [e] at st; exact wpAny_pyIter_striter_wide st h
def iStr (te : TE) : TI := fun σ H R => te σ H fun v H1 => ∃ x, v = .str x ∧ R (Its x) H1
theorem pi_str {X : Cx} {tg e : Expr} {te : TE} (he : PE X e te) : PI X tg e (iStr te) := by
  intro pins s σ H R I h
  refine thn (he pins s σ H _ I h) fun v s1 ⟨y, H1, I1, r1, x, ex, q⟩ => ?_
  subst ex
  obtain ⟨t, rfl⟩ := r1
  cases ha : x.cps.all (· < 128)
  · exact wpAny_pyIter_wide ha (pi_one (tk := s1.toks) I1 _ (turn_str _ x t "str_iterator" (.inr rfl)) ⟨_, Heap.get?_push_size _ rfl, rfl, rfl⟩ q)
  · exact wpAny_pyIter_ascii ha (pi_one (tk := s1.toks) I1 _ (turn_str _ x t "str_ascii_iterator" (.inl rfl)) ⟨_, Heap.get?_push_size _ rfl, rfl, rfl⟩ q)
theorem kv_get {κ : Type} {kvs : List (κ × V)} {vs : List (κ × Value)} (h : KV kvs vs) : ∀ {i : Nat} {k : κ} {v : V}, kvs[i]? = some (k, v) → ∃ u, vs[i]? = some (k, u) ∧ RelV v u := by
  unfold KV at h
  induction h with
  | nil => intro i k v e; simp at e
  | @cons a b l₁ l₂ r t ih =>
    intro i k v e
    cases i with
    | zero =>
      simp only [List.getElem?_cons_zero, Option.some.injEq] at e
      subst e
      refine ⟨b.2, ?_, r.2⟩
      simp only [List.getElem?_cons_zero]
      exact congrArg some (Prod.ext r.1.symm rfl)
    | succ j =>
      simp only [List.getElem?_cons_succ] at e ⊢
      exact ih e
section
variable {X : Cx} {pins : List (Addr × Obj)} {σ : St} {H : Hp} {s : Shared} {d : Addr} {o : Obj}
theorem Inv.frzK {kvs : List (Key × V)} (I : Inv X pins σ H s) (h : H d = some (.frz o (.dK kvs))) :
    (d == sysModules) = false ∧ s.heap.get? d = some o ∧ o.ExactDict ∧ ∃ (es : Array DictEntry) (ep : Nat) (vs : List (Key × Value)), o.data = .dict es ep ∧ es.size = kvs.length ∧ KV kvs vs ∧ s.heap.DictAt (mixKind X.prog X.w) d vs ep := by
  obtain ⟨hd, z, hs, vs, kv, o', es, ep, ho, hx, hdt, r⟩ := I.hok d _ h
  rw [hd] at ho
  cases ho
  refine ⟨hs, hd, hx, es, ep, vs, hdt, ?_, kv, o, es, hd, hx, hdt, r⟩
  have l1 := r.2.1.length
  have l2 : kvs.length = vs.length := Paired.length kv
  rw [Array.length_toList] at l1
  omega
end
def Itd (d : Addr) (o : Obj) (kvs : List (Key × V)) : It :=
  ⟨fun i H => H d = some (.frz o (.dK kvs)) ∧ i < kvs.length, fun i H x H' => H' = H ∧ ∃ k, kvs[i]? = some (k, x), fun i H => H d = some (.frz o (.dK kvs)) ∧ kvs.length ≤ i⟩
theorem dict_ep {o : Obj} {es es' : Array DictEntry} {ep ep' : Nat} (h : o.data = .dict es ep) (h' : o.data = .dict es' ep') : es' = es ∧ ep' = ep := by
  rw [h] at h'
  cases h'
  exact ⟨rfl, rfl⟩
section
variable {P : Program} {w : World} {K : PySem.W.Frag} {tg : Expr} {d : Addr} {o : Obj} {es : Array DictEntry} {ep : Nat}
theorem turn_vals {kvs : List (Key × V)} (it : Addr) (hod : o.data = .dict es ep) : Turn P w K tg (Itd d o kvs) [it] it (fun i h => h.IsValIter it d i kvs.length ep) where
  mem := by simp
  obj := fun i h st b hb => by
    have e : b = it := by simpa using hb
    subst e
    obtain ⟨oi, e, c, dd⟩ := st
    exact ⟨oi, e, fun v z => by rw [dd] at z; cases z⟩
  keep := fun i h h' st k => st.at fun oi e => k it (by simp) oi e
  item := by
    intro X hP hw hK hc i pins s σ H E I hf st hg
    subst hP hw hK
    obtain ⟨hd, hi⟩ := hg
    obtain ⟨f0, f1, f2, f3, f4, f5⟩ := hf it (by simp)
    obtain ⟨hs, hgd, hx, es', ep', vs, hdt, hsz, kv, hm⟩ := I.frzK hd
    obtain ⟨rfl, rfl⟩ := dict_ep hod hdt
    obtain ⟨⟨k, v⟩, hkv⟩ : ∃ p, kvs[i]? = some p := ⟨kvs[i], List.getElem?_eq_getElem hi⟩
    obtain ⟨u, hu, ru⟩ := kv_get kv hkv
    have hl : kvs.length = vs.length := Paired.length kv
    rw [hl] at st
    refine wpAny_pyNext_values_item st hm hu fun h' st' sb => ?_
    have I1 : Inv X pins σ H { s with heap := h' } := I.turned (t' := s.toks) (fun b ob hb e => (sb.2 b hb).trans e) f0 f1 f3 f4 f5
    obtain ⟨oi, e, c, dd⟩ := id st'
    refine ⟨u, rfl, go_of (s := { s with heap := h' }) e c dd (by decide) ⟨v, H, I1, ru, ⟨rfl, k, hkv⟩, ?_, fun b hb => (hf b hb).1⟩⟩
    show h'.IsValIter it d (i + 1) kvs.length _
    rw [hl]
    exact st'
  done := by
    intro X hP hw hK hc i pins s σ H E I hf st hg
    subst hP hw hK
    obtain ⟨hd, hi⟩ := hg
    obtain ⟨f0, f1, f2, f3, f4, f5⟩ := hf it (by simp)
    obtain ⟨hs, hgd, hx, es', ep', vs, hdt, hsz, kv, hm⟩ := I.frzK hd
    obtain ⟨rfl, rfl⟩ := dict_ep hod hdt
    have hl : kvs.length = vs.length := Paired.length kv
    rw [hl] at st
    exact wpAny_pyNext_values_end (I.ok.hd hc) st hm (List.getElem?_eq_none (by omega)) fun h' eb => ⟨rfl, I.turned (t' := s.toks) (fun b ob hb e => eb b ob hb e) f0 f1 f3 f4 f5⟩
  self := fun A i s Q E st h => wpAny_pyIter_valiter st h
end
def iVals (td : TE) : TI := fun σ H R => td σ H fun x H1 => ∃ d o kvs, x = .ref d ∧ H1 d = some (.frz o (.dK kvs)) ∧ R (Itd d o kvs) H1
section
variable {X : Cx} {tg e : Expr} {td : TE} {apos cpos : Pos}
theorem pi_values (he : PE X e td) (hbase : attributeBase e "values" X.env (eval e X.env) = eval e X.env := by rfl) (hline : (apos.endLine == cpos.line) = true := by rfl) : PI X tg (.Call (.Attribute e "values" apos) [] [] cpos) (iVals td) := by
  intro pins s σ H R I h
  refine wpAny_Call_method (T := "dict") (id := "dict.values") hbase rfl hline F.plainAttrs_dict F.slot_dict_values F.type_dict_values (thn (he pins s σ H _ I h) fun u s1 ⟨x, H1, I1, rx, d, o, kvs, ex, hd, q⟩ => ?_)
  subst ex
  obtain rfl : u = Value.ref d := rx
  obtain ⟨hs, hgd, hx, es, ep, vs, hdt, hsz, kv, hm⟩ := I1.frzK hd
  have hl : kvs.length = vs.length := Paired.length kv
  refine ⟨hm.dictOf.typeIs, hm.dictOf.mapOf.noDict, ?_⟩
  have I2 : Inv X pins σ H1 { s1 with heap := s1.heap.push { cls := .type "dict_values", data := .fields #[.ref d] } } := I1.kept (t' := s1.toks) fun b ob q => Heap.get?_push_of_some _ q
  have fin : wpAny (model X.prog X.w) X.A (pyIter (.ref s1.heap.objs.size)) (PIE X pins σ tg R) X.xe { s1 with heap := s1.heap.push { cls := .type "dict_values", data := .fields #[.ref d] } } := by
    refine wpAny_pyIter_values (d := d) (knd := mixKind X.prog X.w) ⟨_, Heap.get?_push_size _ rfl, rfl, rfl⟩ (hm.push _) (pi_one (tk := s1.toks) I2 _ (turn_vals _ hdt) ⟨_, Heap.get?_push_size _ rfl, rfl, ?_⟩ q)
    rw [hl] <;> rfl
  show wpAny _ _ (callWith cpos (.builtin "dict.values") [.ref d] [] []) _ X.xe s1
  exact method_meetsIn F.slot_dict_values F.entry_dict_values rfl (PySem.evalArgs_none ⟨rfl, hm.dictOf.typeIs, F.args_dict_values_1 _, _, meets_dict_values (mixKind X.prog X.w) d hs, ⟨vs, hm.dictOf⟩, fin⟩)
end
def Ite (K : PySem.W.Frag) (a : Addr) : It :=
  ⟨fun i H => ∃ (xs : List V) (x : V), SqL K H a xs ∧ xs[i]? = some x, fun i H v H' => ∃ T x, v = .ref T ∧ H T = none ∧ H' = upd H T (.tup [.int (i : Nat), x]) ∧ ∀ xs, SqL K H a xs → xs[i]? = some x, fun i H => ∃ xs : List V, SqL K H a xs ∧ xs.length ≤ i⟩
theorem turn_enum {P : Program} {w : World} {K : PySem.W.Frag} {elts : List Expr} {kk : Nat} {tpos : Pos} (a e it : Addr) :
    Turn P w K (.Tuple elts kk tpos) (Ite K a) [e, it] e (fun i h => (∃ old, IsEnum h e it ((i : Nat) : Int) old) ∧ h.IsListIter it a i ∧ e ≠ it) where
  mem := by simp
  obj := fun i h st b hb => by
    obtain ⟨⟨old, he⟩, ⟨o, ho, hc, hd⟩, _⟩ := st
    have e' : b = e ∨ b = it := by simpa using hb
    rcases e' with z | z
    · rw [z]; exact ⟨_, he, fun v q => nomatch q⟩
    · rw [z]; exact ⟨o, ho, fun v q => by rw [hd] at q; cases q⟩
  keep := fun i h h' st k => let ⟨⟨old, he⟩, hi, hne⟩ := st; ⟨⟨old, k e (by simp) _ he⟩, hi.at fun o q => k it (by simp) o q, hne⟩
  item := by
    intro X hP hw hK hc i pins s σ H E I hf st hg
    subst hP hw hK
    obtain ⟨⟨old, he⟩, hit, hne⟩ := st
    obtain ⟨xs, x, hq, hx⟩ := hg
    obtain ⟨its, rv, p, hz⟩ := I.list hq
    obtain ⟨u, hu, ru⟩ := rv.get hx
    have hel : e < s.heap.objs.size := Heap.lt_size he
    have hil : it < s.heap.objs.size := by obtain ⟨_, q, _⟩ := hit; exact Heap.lt_size q
    refine wpAny_pyNext_enum_item he hit p.isList (x := u) (by simpa using hu) hne fun h' ho hit' hT hsz hk => ?_
    refine ⟨_, rfl, wpAny_letOwnedTupleGo_enum (s := { s with heap := h', toks := s.toks + 1 }) ho fun h'' he' sb => ?_⟩
    have hT2 : h''.get? s.heap.objs.size = some { cls := .type "tuple", data := .seq #[.int i s.toks, u] } := (sb.2 _ (Nat.ne_of_gt hel)).trans hT
    have new : ObjOk X.prog X.w (upd H s.heap.objs.size (.tup [.int (i : Nat), x])) h'' s.heap.objs.size (.tup [.int (i : Nat), x]) :=
      ⟨by show 2 ≤ sizeLine; decide, [.int i s.toks, u], .cons ⟨_, rfl⟩ (.cons ru .nil), ⟨_, hT2, rfl, _, rfl⟩⟩
    have I1 : Inv X pins σ (upd H s.heap.objs.size (.tup [.int (i : Nat), x])) { s with heap := h'', toks := s.toks + 1 } :=
      I.turnedNew (ch := [e, it]) (fun b ob hb q => (sb.2 b (fun z => hb (by simp [z]))).trans (hk b ob (fun z => hb (by simp [z])) (fun z => hb (by simp [z])) q)) hf (Nat.le_refl _) new
    refine ⟨.ref s.heap.objs.size, _, I1, rfl, ⟨_, x, rfl, I.hok.fresh (Nat.le_refl _), rfl, fun ys hy => by rw [I.list_inj hy hq]; exact hx⟩, ⟨⟨u, ?_⟩, hit'.at fun o q => (sb.2 it (Ne.symm hne)).trans q, hne⟩, fun b hb => ?_⟩
    · have e1 : ((i + 1 : Nat) : Int) = (i : Int) + 1 := by omega
      rw [e1]; exact he'
    · have hb' : b < s.heap.objs.size := by
        have e' : b = e ∨ b = it := by simpa using hb
        rcases e' with z | z
        · rw [z]; exact hel
        · rw [z]; exact hil
      rw [upd_ne (Nat.ne_of_lt hb')]
      exact (hf b hb).1
  done := by
    intro X hP hw hK hc i pins s σ H E I hf st hg
    subst hP hw hK
    obtain ⟨⟨old, he⟩, hit, hne⟩ := st
    obtain ⟨xs, hq, hx⟩ := hg
    obtain ⟨its, rv, p, hz⟩ := I.list hq
    obtain ⟨f0, f1, f2, f3, f4, f5⟩ := hf it (by simp)
    have hl := rv.length
    exact wpAny_pyNext_enum_end (I.ok.hd hc) he hit p.isList (by simp; omega) fun h' eb => ⟨rfl, I.turned (t' := s.toks) (fun b o hb q => eb b o hb q) f0 f1 f3 f4 f5⟩
  self := fun A i s Q E st h => let ⟨⟨_, he⟩, _⟩ := st; wpAny_pyIter_enum he h
def iEnum (K : PySem.W.Frag) (ta : TA) : TI := fun σ H R => ta σ H fun vs H1 => ∃ a xs, vs = [.ref a] ∧ SqL K H1 a xs ∧ R (Ite K a) H1
theorem pi_enum {X : Cx} {e : Expr} {ta : TA} {p pos tpos : Pos} {elts : List Expr} {kk : Nat} (hg : Gl X "enumerate") (hm : X.mg "enumerate" = none) (ha : PA X [e] ta) (hs : starEach [e] X.env = [(false, eval e X.env)] := by rfl) :
    PI X (.Tuple elts kk tpos) (.Call (.Name "enumerate" p) [e] [] pos) (iEnum X.K ta) := by
  intro pins s σ H R I h
  refine Call_ (ld_blt I hg hm boot_enumerate (PyProof.Rows.callWith_type1 (thn (ha pos pins s σ H _ I h) fun us s1 ⟨vs, H1, I1, r1, q1⟩ => ?_) hs rfl))
  obtain ⟨a, xs, ex, hq, q⟩ := q1
  subst ex
  cases r1 with
  | cons r rr =>
    cases rr
    cases r
    obtain ⟨its, rv, p', hz⟩ := I1.list hq
    refine call_enumerate_list p'.isList fun h' he hit hsz hk => wpAny_pyIter_enum he ?_
    have I2 : Inv X pins σ H1 { s1 with heap := h' } := I1.kept (t' := s1.toks) hk
    refine ⟨s1.heap.objs.size + 1, [s1.heap.objs.size + 1, s1.heap.objs.size], _, _, H1, rfl, I2, turn_enum a (s1.heap.objs.size + 1) s1.heap.objs.size, ⟨⟨.none, he⟩, hit, Nat.succ_ne_self _⟩, fun b hb => ?_, q⟩
    have e' : b = s1.heap.objs.size + 1 ∨ b = s1.heap.objs.size := by simpa using hb
    have hle : s1.heap.objs.size ≤ b := by
      rcases e' with z | z
      · rw [z]; exact Nat.le_add_right _ _
      · rw [z]; exact Nat.le_refl _
    exact I1.fpOk hle (I1.hok.fresh hle)
end L2
section 
namespace Bits
open PySem PyProof.Rows
theorem bit_at {x : Int} (i : Nat) : Builtin.bitAnd (x.fdiv (2 ^ i)) 1 = x / 2 ^ i % 2 := by
  have hp : (0 : Int) ≤ 2 ^ i := by
    rw [two_pow_cast]
    exact Int.natCast_nonneg _
  rw [Int.fdiv_eq_ediv_of_nonneg _ hp, bitAnd_m1]
end Bits
end 
section 
namespace TL
open PySem PySem.Builtin PySem.Builtin.Str PySem.StrLaws
abbrev tl (x : Str) : List Nat := x.cps.toList
theorem len_tl (x : Str) : x.length = (tl x).length := by simp [tl, Str.length]
theorem ext_tl {x y : Str} (h : tl x = tl y) : x = y := Str.ext' (Array.toList_inj.mp h)
theorem tl_append (x y : Str) : tl (x ++ y) = tl x ++ tl y := by
  show (x ++ y).cps.toList = _
  rw [Str.cps_append, Array.toList_append]
theorem map_tl_inj : ∀ {l m : List Str}, l.map tl = m.map tl → l = m
  | [], [], _ => rfl
  | [], _ :: _, h => by simp at h
  | _ :: _, [], h => by simp at h
  | x :: l, y :: m, h => by
    rw [List.map_cons, List.map_cons] at h
    injection h with h1 h2
    rw [ext_tl h1, map_tl_inj h2]
def joinL (S : List Nat) : List (List Nat) → List Nat
  | [] => []
  | [p] => p
  | p :: q :: r => p ++ (S ++ joinL S (q :: r))
theorem tl_join (y : Str) : ∀ parts : List Str, tl (Str.join y parts) = joinL (tl y) (parts.map tl)
  | [] => rfl
  | [_] => rfl
  | x :: z :: r => by
    show tl (x ++ y ++ Str.join y (z :: r)) = tl x ++ (tl y ++ joinL (tl y) ((z :: r).map tl))
    rw [tl_append, tl_append, tl_join y (z :: r), List.append_assoc]
theorem join_eq (y : Str) (parts : List Str) : Txt.join y parts = Str.join y parts := glued_eq_join y parts
def wstep (st : List (List Nat) × List Nat) (c : Nat) : List (List Nat) × List Nat :=
  if Unicode.isSpace c = true then (if st.2 = [] then st else (st.1 ++ [st.2], [])) else (st.1, st.2 ++ [c])
def wfin (st : List (List Nat) × List Nat) : List (List Nat) := if st.2 = [] then st.1 else st.1 ++ [st.2]
theorem len0_tl (x : Str) : x.length = 0 ↔ tl x = [] := by
  rw [len_tl]
  exact List.length_eq_zero_iff
theorem step_tl (ws : List Str) (u : Str) (c : Nat) : ((KWd.step (ws, u) c).1.map tl, tl (KWd.step (ws, u) c).2) = wstep (ws.map tl, tl u) c := by
  by_cases hc : Unicode.isSpace c = true
  · by_cases hu : u.length = 0
    · have a : KWd.step (ws, u) c = (ws, u) := (if_pos hc).trans (if_pos hu)
      have b : wstep (ws.map tl, tl u) c = (ws.map tl, tl u) := (if_pos hc).trans (if_pos ((len0_tl u).mp hu))
      rw [a, b] <;> rfl
    · have a : KWd.step (ws, u) c = (ws ++ [u], Str.empty) := (if_pos hc).trans (if_neg hu)
      have b : wstep (ws.map tl, tl u) c = (ws.map tl ++ [tl u], []) := (if_pos hc).trans (if_neg fun z => hu ((len0_tl u).mpr z))
      rw [a, b]
      show ((ws ++ [u]).map tl, ([] : List Nat)) = _
      rw [List.map_append] <;> rfl
  · have a : KWd.step (ws, u) c = (ws, u ++ ⟨#[c]⟩) := if_neg hc
    have b : wstep (ws.map tl, tl u) c = (ws.map tl, tl u ++ [c]) := if_neg hc
    rw [a, b]
    show (ws.map tl, tl (u ++ ⟨#[c]⟩)) = _
    rw [tl_append] <;> rfl
theorem scan_tl : ∀ (l : List Nat) (st : KWd.St), ((l.foldl KWd.step st).1.map tl, tl (l.foldl KWd.step st).2) = l.foldl wstep (st.1.map tl, tl st.2)
  | [], _ => rfl
  | c :: r, (ws, u) => by
    show ((r.foldl KWd.step (KWd.step (ws, u) c)).1.map tl, tl (r.foldl KWd.step (KWd.step (ws, u) c)).2) = r.foldl wstep (wstep (ws.map tl, tl u) c)
    exact (scan_tl r (KWd.step (ws, u) c)).trans (congrArg (fun z => r.foldl wstep z) (step_tl ws u c))
theorem fin_tl : ∀ q : KWd.St, (KWd.fin q).map tl = wfin (q.1.map tl, tl q.2)
  | (ws, u) => by
    show (if u.length = 0 then ws else ws ++ [u]).map tl = (if tl u = [] then ws.map tl else ws.map tl ++ [tl u])
    by_cases hu : u.length = 0
    · rw [if_pos hu, if_pos ((len0_tl u).mp hu)]
    · rw [if_neg hu, if_neg (fun z => hu ((len0_tl u).mpr z)), List.map_append] <;> rfl
theorem words_tl (x : Str) : (Txt.words x).map tl = wfin ((tl x).foldl wstep ([], [])) := by
  rw [KWd.words_scan]
  exact (fin_tl (KWd.scan x)).trans (congrArg wfin (scan_tl (tl x) ([], Str.empty)))
end TL
end 
namespace L2
open PySem PySem.Spec PyProof.Rows
theorem vals_strs : ∀ l : List (Str × Tok), Vals ((l.map (·.1)).map V.str) (strValues l)
  | [] => .nil
  | p :: r => .cons ⟨p.2, rfl⟩ (vals_strs r)
theorem strs_of_vals : ∀ {ys : List Str} {us : List Value}, Vals (ys.map V.str) us → StrsAre us ys
  | [], _, .nil => .nil
  | y :: ys, _, .cons r t => by
    obtain ⟨k, rfl⟩ := r
    exact .cons y k (strs_of_vals t)
def rNewStrs (ys : List Str) : Hp → VK → Prop := fun H Q => ∀ p, H p = none → Q (.ref p) (upd H p (.lst (ys.map V.str)))
section
variable {X : Cx} {pins : List (Addr × Obj)} {σ : St} {H : Hp} {s : Shared} {Q : VK}
theorem laid_strs {l : List (Str × Tok)} {ys : List Str} {k : Nat} (I : Inv X pins σ H s) (e : l.map (·.1) = ys) (hz : ys.length ≤ sizeLine) (h : rNewStrs ys H Q) :
    EP X pins σ Q (.ref s.heap.objs.size) { s with toks := k, heap := s.heap.push { cls := .type "list", data := .seq (strValues l).toArray } } := by
  have hp := I.hok.fresh (Nat.le_refl _)
  refine ⟨.ref s.heap.objs.size, upd H s.heap.objs.size (.lst (ys.map V.str)), I.laid (fun b u q => Heap.get?_push_of_some _ q) (Nat.le_refl _) ⟨by rw [List.length_map]; exact hz, strValues l, _, ?_, Heap.get?_push_size _ rfl⟩, rfl, h _ hp⟩
  rw [← e]
  exact vals_strs l
end
section
variable {X : Cx}
theorem words_le (x : Str) : (Txt.words x).length ≤ x.length + 1 := by
  have e1 := StrLaws.words_weight x
  omega
theorem mt_words : MtR X "str.split" (fun x xs H Q => ∃ a, x = .str a ∧ xs = [] ∧ a.length + 2 ≤ sizeLine ∧ rNewStrs (Txt.words a) H Q) := by
  intro pins s σ H x xs v us Q I rx rs h
  obtain ⟨a, rfl, rfl, hz, h⟩ := h
  obtain ⟨t, rfl⟩ := rx
  cases rs
  have hl : (Txt.words a).length ≤ sizeLine := Nat.le_trans (words_le a) (by omega)
  have hn : (Builtin.Str.spaceWords a (a.length + 1)).length ≤ sizeLine := by
    have e1 := (StrLaws.sw_weight a).1
    have e2 := StrLaws.len_le_wsum (Builtin.Str.spaceWords a (a.length + 1))
    omega
  refine call_meets F.slot_str_split (typeIs_str _ _ _) F.entry_str_split (F.args_str_split_1 _) (meets_str_split_space a t (by omega) hn) ?_
  cases hw : Builtin.Str.spaceWords a (a.length + 1) == [(0, a.length)]
  · simp only [Bool.false_eq_true, if_false]
    rw [strsFrom_eq]
    exact laid_strs (ys := Txt.words a) I ((numbered_texts _ _).trans (if_neg (ne_true_of_eq_false hw)).symm) hl h
  · simp only [if_true]
    exact laid_strs (l := [(a, t)]) (ys := Txt.words a) (k := s.toks) I (if_pos hw).symm hl h
theorem mt_join : MtR X "str.join" (fun x xs H Q => ∃ a p, ∃ ys : List Str, x = .str a ∧ xs = [.ref p] ∧ (SqL X.K H p (ys.map V.str) ∨ SqT X.K H p (ys.map V.str)) ∧
    (ys.map (·.length)).sum + ys.length * a.length ≤ 16777216 ∧ Q (.str (Txt.join a ys)) H) := by
  intro pins s σ H x xs v us Q I rx rs h
  obtain ⟨a, p, ys, rfl, rfl, hp, hz, h⟩ := h
  obtain ⟨t, rfl⟩ := rx
  cases rs with
  | cons r1 rs =>
    cases rs
    cases r1
    rcases hp with hp | hp
    · obtain ⟨its, r, ⟨o, n, ho, hc, _, hd⟩, _⟩ := I.list hp
      exact PyProof.Rows.join_list (items := its.toArray) ⟨o, ho, hc, n, hd⟩ (by rw [List.toList_toArray]; exact strs_of_vals r) hz fun t' k => ⟨.str _, H, I.tok k, ⟨t', rfl⟩, h⟩
    · obtain ⟨its, r, ht, _⟩ := I.tuple hp
      exact PyProof.Rows.join_tuple (items := its.toArray) ht (by rw [List.toList_toArray]; exact strs_of_vals r) hz fun t' k => ⟨.str _, H, I.tok k, ⟨t', rfl⟩, h⟩
theorem call_int_str : CallR X (.type "int") (fun xs H Q => ∃ a n, xs = [.str a] ∧ PySem.intText? a = some n ∧ a.length ≤ 640 ∧ Q (.int n) H) := by
  intro pins s σ H xs us Q I rs h
  obtain ⟨a, n, rfl, hn, hl, h⟩ := h
  cases rs with
  | cons r1 rs =>
    cases rs
    obtain ⟨t, rfl⟩ := r1
    exact PySem.W.KIN.call_text hn hl ⟨.int n, H, I.tok _, ⟨_, rfl⟩, h⟩
end
section
variable {X : Cx} {o e : Expr} {to te : TE}
def tM0 (r : V → List V → Hp → VK → Prop) (to : TE) : TE := fun σ H Q => to σ H fun x H1 => (∃ a, x = .str a) ∧ r x [] H1 Q
def tM1 (r : V → List V → Hp → VK → Prop) (to te : TE) : TE := fun σ H Q => to σ H fun x H1 => (∃ a, x = .str a) ∧ te σ H1 fun y H2 => r x [y] H2 Q
theorem pe_m0 {id : String} {name : Str} {apos pos : Pos} {r : V → List V → Hp → VK → Prop} (slot : Slot "str" name id) (ty : typeOf (.builtin id) = pure (.type "method_descriptor")) (rule : MtR X id r) (ho : PE X o to)
    (hbase : attributeBase o name X.env (eval o X.env) = eval o X.env := by rfl) (hline : (apos.endLine == pos.line) = true := by rfl) : PE X (.Call (.Attribute o name apos) [] [] pos) (tM0 r to) := by
  intro pins s σ H Q I h
  refine PySem.Call_method0 hbase hline (thn (ho pins s σ H _ I h) fun v s1 ⟨x, H1, I1, r1, q1⟩ => ?_)
  obtain ⟨⟨a, rfl⟩, q1⟩ := q1
  obtain ⟨t, rfl⟩ := _root_.id r1
  exact ⟨"str", _, F.plainAttrs_str, slot, ty, typeIs_str _ _ _, (fun _ e => nomatch e), Calls.callWith_builtin rfl (PySem.evalArgs_none (rule pins s1 σ H1 _ [] _ [] Q I1 r1 .nil q1))⟩
theorem pe_m1 {id : String} {name : Str} {apos pos : Pos} {r : V → List V → Hp → VK → Prop} (slot : Slot "str" name id) (ty : typeOf (.builtin id) = pure (.type "method_descriptor")) (rule : MtR X id r) (ho : PE X o to) (he : PE X e te)
    (hs : starEach [e] X.env = [(false, eval e X.env)] := by rfl) (hbase : attributeBase o name X.env (eval o X.env) = eval o X.env := by rfl) (hline : (apos.endLine == pos.line) = true := by rfl) :
    PE X (.Call (.Attribute o name apos) [e] [] pos) (tM1 r to te) := by
  intro pins s σ H Q I h
  refine PySem.Call_method1 hbase hs hline (thn (ho pins s σ H _ I h) fun v s1 ⟨x, H1, I1, r1, q1⟩ => ?_)
  obtain ⟨⟨a, rfl⟩, q1⟩ := q1
  obtain ⟨t, rfl⟩ := _root_.id r1
  refine ⟨"str", _, F.plainAttrs_str, slot, ty, typeIs_str _ _ _, (fun _ e => nomatch e), Calls.callWith_builtin rfl (Calls.evalArgs_plain (Calls.spliced_cons ?_))⟩
  exact thn (he pins s1 σ H1 _ I1 q1) fun u s2 ⟨y, H2, I2, r2, q2⟩ => Calls.spliced_nil (rule pins s2 σ H2 _ [y] _ [u] Q I2 r1 (.cons r2 .nil) q2)
theorem pe_words {apos pos : Pos} (ho : PE X o to) (hbase : attributeBase o "split" X.env (eval o X.env) = eval o X.env := by rfl) (hline : (apos.endLine == pos.line) = true := by rfl) :
    PE X (.Call (.Attribute o "split" apos) [] [] pos) (tM0 (fun x xs H Q => ∃ a, x = .str a ∧ xs = [] ∧ a.length + 2 ≤ sizeLine ∧ rNewStrs (Txt.words a) H Q) to) :=
  pe_m0 F.slot_str_split F.type_str_split mt_words ho hbase hline
theorem pe_join {apos pos : Pos} (ho : PE X o to) (he : PE X e te) (hs : starEach [e] X.env = [(false, eval e X.env)] := by rfl) (hbase : attributeBase o "join" X.env (eval o X.env) = eval o X.env := by rfl) (hline : (apos.endLine == pos.line) = true := by rfl) :
    PE X (.Call (.Attribute o "join" apos) [e] [] pos) (tM1 (fun x xs H Q => ∃ a p, ∃ ys : List Str, x = .str a ∧ xs = [.ref p] ∧ (SqL X.K H p (ys.map V.str) ∨ SqT X.K H p (ys.map V.str)) ∧
      (ys.map (·.length)).sum + ys.length * a.length ≤ 16777216 ∧ Q (.str (Txt.join a ys)) H) to te) :=
  pe_m1 F.slot_str_join F.type_str_join mt_join ho he hs hbase hline
end
end L2
namespace L2
open PySem PySem.Spec PyProof.Rows
section
variable {X : Cx}
theorem op_in_sign : OpR X (compareOp .In) (fun x y H Q => ∃ (c : Nat) (z : Str), x = .str ⟨#[c]⟩ ∧ y = .str z ∧ Q (.bl (decide (c ∈ z.cps.toList))) H) := by
  intro pins s σ H x y v u Q I rx ry h
  obtain ⟨c, z, rfl, rfl, q⟩ := h
  obtain ⟨t, rfl⟩ := rx
  obtain ⟨t', rfl⟩ := ry
  exact PyProof.Rows.in_str (fin_bl I q (PySem.StrLaws.found_one z c).symm)
theorem op_notIn_sign : OpR X (compareOp .NotIn) (fun x y H Q => ∃ (c : Nat) (z : Str), x = .str ⟨#[c]⟩ ∧ y = .str z ∧ Q (.bl (!decide (c ∈ z.cps.toList))) H) := by
  intro pins s σ H x y v u Q I rx ry h
  obtain ⟨c, z, rfl, rfl, q⟩ := h
  obtain ⟨t, rfl⟩ := rx
  obtain ⟨t', rfl⟩ := ry
  exact PyProof.Rows.notIn_str (fin_bl I q (congrArg Bool.not (PySem.StrLaws.found_one z c).symm))
end
end L2
namespace Att
open PySem PySem.W PySem.Calls PyProof.Rows
end Att
namespace L2
open PySem PySem.Spec PyProof.Rows
end L2
namespace L2
open PySem PySem.Spec PyProof.Rows
end L2
namespace L2
open PySem PySem.Spec PyProof.Rows
abbrev CX0 : CXT := fun _ _ _ _ _ _ => False
abbrev E0 : XK := fun _ _ _ => False
theorem pass0 {X : Cx} : Passes CX0 X E0 := fun _ _ _ _ _ _ _ h => h.elim
structure Fun (K : PySem.W.Frag) (x qual : Str) (st : Stmt) (f : Addr) (fd : FuncData) : Prop where
  ex : ∃ (oc : Value) (od : Option Addr) (kV doc pm : Value) (an : Option Addr) (cdv ct : Value) (osl : Array (Option Value)),
    fd = PySem.W.fnOf x qual (defArgs st) (defBody st) (defScope st) .none kV doc pm an cdv ct ∧ K.lookup f = some ⟨oc, od, .func fd, osl⟩ ∧ PySem.W.codeIn K cdv qual = true
  kp : PySem.W.keepIn K (.ref f) = true
section
variable {P : Program} {w : World} {K : PySem.W.Frag} {mg : Str → Option Value} {base : Heap}
theorem Fun.ok {x qual : Str} {st : Stmt} {f : Addr} {fd : FuncData} {N ps : List Str} {k : Nat} {sp : Sp} (F : Fun K x qual st f fd) (S : FnScope N ps (defScope st)) (len : ∀ vs H Q E, sp vs H Q E → vs.length = ps.length)
    (hbody : ∀ (cdv : Value) (A : Around) (outer : List Env) (s : Shared) (H : Hp) (vs : List V) (Q : VK) (E : XK), Room k (A.deeper (envOfC qual (defScope st) s.heap.objs.size f cdv)) → sp vs H Q E →
      ∃ t, PSs (cxOf CX0 P w K mg base N qual (defScope st) f cdv A outer s H E).nox (defBody st) t ∧ t { nx := fun _ H' => Q .non H', rt := Q } (start N vs) H) : FnOk P w K mg base CX0 (k + 1) f fd ps sp := by
  obtain ⟨oc, od, kV, doc, pm, an, cdv, ct, osl, rfl, lk, hcd⟩ := F.ex
  refine fn_of lk hcd S len fun A outer s H vs Q E hr hsp => ?_
  obtain ⟨t, h, q⟩ := hbody cdv A outer s H vs Q E hr hsp
  exact ⟨t, h.nox, q⟩
theorem Fun.binds {x qual : Str} {st : Stmt} {f : Addr} {fd : FuncData} {ps : List Str} (F : Fun K x qual st f fd)
    (h : ∀ (kV doc pm : Value) (an : Option Addr) (cdv ct : Value) (us : List Value), us.length = ps.length → bindArgs (PySem.W.fnOf x qual (defArgs st) (defBody st) (defScope st) .none kV doc pm an cdv ct) ⟨us, []⟩ = pure (ps.zip us)) : Binds K fd ps [] := by
  obtain ⟨oc, od, kV, doc, pm, an, cdv, ct, osl, rfl, lk, hcd⟩ := F.ex
  exact .all (h kV doc pm an cdv ct)
theorem fun_mk {x qual : Str} {st : Stmt} {f : Addr} {oc : Value} {od an : Option Addr} {osl : Array (Option Value)} {kV doc pm cdv ct : Value} (l : K.lookup f = some ⟨oc, od, .func (PySem.W.fnOf x qual (defArgs st) (defBody st) (defScope st) .none kV doc pm an cdv ct), osl⟩)
    (c : PySem.W.codeIn K cdv qual = true) (k : PySem.W.keepIn K (.ref f) = true) : Fun K x qual st f (PySem.W.fnOf x qual (defArgs st) (defBody st) (defScope st) .none kV doc pm an cdv ct) := ⟨⟨oc, od, kV, doc, pm, an, cdv, ct, osl, rfl, l, c⟩, k⟩
end
theorem hu_of {A : Around} {k : Nat} (hr : Room k A) : A.units + 1 < cLine := Nat.lt_of_le_of_lt (Nat.add_le_add_left (by decide : 1 ≤ 64) _) hr.units
section
variable {X : Cx}
theorem pv (i : Nat) {x : Str} {pos : Pos} (hN : X.N[i]? = some x := by rfl) (hv : Vis X.env.scope x := by first | exact Or.inl rfl | exact Or.inr (Or.inl rfl) | exact Or.inr (Or.inr rfl)) (hd : (x == ("__debug__" : Str)) = false := by decide)
    (hcd : (x == ("__classdict__" : Str)) = false := by decide) : PE X (.Name x pos) (tVar i) := pe_var hN hv hd hcd
theorem call_lenD : CallR X (.builtin "len") (fun xs H Q => ∃ a kvs, xs = [V.ref a] ∧ H a = some (.dK kvs) ∧ Q (.int kvs.length) H) := by
  intro pins s σ H xs us Q I r h
  obtain ⟨a, kvs, rfl, ha, q⟩ := h
  obtain ⟨u, rfl, ru⟩ := vals1 r
  cases ru
  exact d_len I (.inl ha) fun t s' I' => ⟨.int kvs.length, H, I', ⟨t, rfl⟩, q⟩
end
theorem iteF {A B : Prop} (h : B) : if false = true then A else B := by
  rw [if_neg Bool.false_ne_true]
  exact h
theorem iteT {A B : Prop} (h : A) : if true = true then A else B := by
  rw [if_pos rfl]
  exact h
theorem ite2 {c A B : Prop} [Decidable c] (h1 : c → A) (h2 : ¬ c → B) : if c then A else B := by
  by_cases h : c
  · rw [if_pos h]
    exact h1 h
  · rw [if_neg h]
    exact h2 h
def Same (H H' : Hp) : Prop := ∀ b o, H b = some o → H' b = some o
theorem Same.refl (H : Hp) : Same H H := fun _ _ h => h
theorem Same.trans {H H1 H2 : Hp} (a : Same H H1) (b : Same H1 H2) : Same H H2 := fun c o h => b c o (a c o h)
theorem Same.free {H H' : Hp} (e : Same H H') {l : Addr} (h : H' l = Option.none) : H l = Option.none := by
  cases q : H l with
  | none => rfl
  | some o =>
    rw [e l o q] at h
    cases h
theorem Same.seq {K : PySem.W.Frag} {H H' : Hp} {a : Addr} {xs : List V} (e : Same H H') (h : SqL K H a xs) : SqL K H' a xs := by
  rcases h with (h | ⟨o, h⟩) | h
  · exact .inl (.inl (e _ _ h))
  · exact .inl (.inr ⟨o, e _ _ h⟩)
  · exact .inr h
theorem at_of {xs : List V} {z : Int} {j : Nat} {v : V} (e : z = (j : Int)) (h : xs[j]? = some v) : atI xs z = some v := by
  rw [e]
  exact atI_nat h
theorem nd_ix {α : Type} {l : List α} (hN : l.Nodup) {i j : Nat} {x : α} (a : l[i]? = some x) (b : l[j]? = some x) : i = j := by
  obtain ⟨h1, e1⟩ := List.getElem?_eq_some_iff.mp a
  obtain ⟨h2, e2⟩ := List.getElem?_eq_some_iff.mp b
  exact (List.getElem_inj hN).mp (e1.trans e2.symm)
theorem Same.made {H H1 : Hp} {x dx C : Addr} (nx : H x = Option.none) (nd : H dx = Option.none) (k : ∀ b o, (upd (upd H dx (.own x)) x (.ins C dx [])) b = some o → b ≠ x → H1 b = some o) : Same H H1 := fun b o e =>
  k b o (by rw [upd_ne (ne_of_none e nx), upd_ne (ne_of_none e nd)]; exact e) (ne_of_none e nx)
end L2
end
section
section
set_option Elab.async false
set_option linter.all false
set_option maxRecDepth 100000
set_option maxHeartbeats 2000000
namespace L2
open PySem PySem.Spec PyProof.Rows
open PySem.W (WData Codec OpenSpec Well WellAll ReadsW ReadsAllW)
mutual
inductive Dw (K : PySem.W.Frag) (H : Hp) : V → WData → Prop
  | non : Dw K H .non .none
  | bl (b : Bool) : Dw K H (.bl b) (.bool b)
  | int (i : Int) : Dw K H (.int i) (.int i)
  | str (x : Str) : Dw K H (.str x) (.str x)
  | byt (b : Array UInt8) : Dw K H (.byt b) (.bytes b.toList)
  | lst {a : Addr} {xs : List V} {ds : List WData} : SqL K H a xs → DwAll K H xs ds → Dw K H (.ref a) (.list ds)
  | tup {a : Addr} {xs : List V} {ds : List WData} : SqT K H a xs → DwAll K H xs ds → Dw K H (.ref a) (.tuple ds)
inductive DwAll (K : PySem.W.Frag) (H : Hp) : List V → List WData → Prop
  | nil : DwAll K H [] []
  | cons {v : V} {vs : List V} {d : WData} {ds : List WData} : Dw K H v d → DwAll K H vs ds → DwAll K H (v :: vs) (d :: ds)
end
theorem dw_ints {K : PySem.W.Frag} {H : Hp} : ∀ ns : List Int, DwAll K H (ns.map V.int) (ns.map WData.int)
  | [] => .nil
  | n :: r => .cons (.int n) (dw_ints r)
theorem ints_dw {K : PySem.W.Frag} {H : Hp} : ∀ (ns : List Int) (xs : List V), DwAll K H xs (ns.map WData.int) → xs = ns.map V.int
  | [], xs, h => by
    cases h
    rfl
  | n :: r, xs, h => by
    cases h with
    | cons h1 h2 =>
      cases h1
      rw [ints_dw r _ h2] <;> rfl
section
variable {P : Program} {w : World} {K : PySem.W.Frag} {H : Hp} {h : Heap} {R : PySem.W.WRecords} {cl : Str → Option Addr}
theorem sqL_at {a : Addr} {xs : List V} (hok : HOk P w H h) (KX : K.In h) (q : SqL K H a xs) : ∃ (its : List Value) (o : Obj) (n : Nat), Vals xs its ∧ h.get? a = some o ∧ o.cls = .type "list" ∧ o.data = .seq its.toArray n := by
  rcases q with q | ⟨o, its, n, e, hc, _, hd, _, hv⟩
  · obtain ⟨_, its, n, hv, e⟩ := (show ObjOk P w H h a (.lst xs) from q.ok hok)
    exact ⟨its, _, n, hv, e, rfl, rfl⟩
  · exact ⟨its.toList, o, n, hv, KX _ _ e, hc, by simp [hd]⟩
theorem sqT_at {a : Addr} {xs : List V} (hok : HOk P w H h) (KX : K.In h) (q : SqT K H a xs) : ∃ (its : List Value) (o : Obj) (n : Nat), Vals xs its ∧ h.get? a = some o ∧ o.cls = .type "tuple" ∧ o.data = .seq its.toArray n := by
  rcases q with q | ⟨o, its, n, e, hc, hd, _, hv⟩
  · obtain ⟨_, its, hv, o, e, hc, n, hd⟩ := (show ObjOk P w H h a (.tup xs) from q.ok hok)
    exact ⟨its, o, n, hv, e, hc, hd⟩
  · exact ⟨its.toList, o, n, hv, KX _ _ e, hc, by simp [hd]⟩
mutual
theorem Dw.reads (hok : HOk P w H h) (KX : K.In h) : ∀ (d : WData) (v : V) (u : Value), Dw K H v d → RelV v u → ∃ as, ReadsW R cl h u d as
  | .none, _, _, x, r => by
    cases x
    cases r
    exact ⟨_, ReadsW.none⟩
  | .bool b, _, _, x, r => by
    cases x
    cases r
    exact ⟨_, ReadsW.bool b⟩
  | .int i, _, _, x, r => by
    cases x
    obtain ⟨t, rfl⟩ := r
    exact ⟨_, ReadsW.int i t⟩
  | .str s, _, _, x, r => by
    cases x
    obtain ⟨t, rfl⟩ := r
    exact ⟨_, ReadsW.str s t⟩
  | .bytes b, _, _, x, r => by
    cases x
    obtain ⟨t, rfl⟩ := r
    exact ⟨_, ReadsW.bytes _ t⟩
  | .list ds, _, _, x, r => by
    cases x with
    | lst hs ha =>
      cases r
      obtain ⟨its, o, n, rv, ho, hc, hd⟩ := sqL_at hok KX hs
      obtain ⟨as, hr⟩ := Dw.readsAll hok KX ds _ its ha rv
      exact ⟨_, ReadsW.list ho hc hd hr⟩
  | .tuple ds, _, _, x, r => by
    cases x with
    | tup hs ha =>
      cases r
      obtain ⟨its, o, n, rv, ho, hc, hd⟩ := sqT_at hok KX hs
      obtain ⟨as, hr⟩ := Dw.readsAll hok KX ds _ its ha rv
      exact ⟨_, ReadsW.tuple ho hc hd hr⟩
  | .float _, _, _, x, _ => by cases x
  | .dict _, _, _, x, _ => by cases x
  | .bytearray _, _, _, x, _ => by cases x
  | .set _, _, _, x, _ => by cases x
  | .frozenset _, _, _, x, _ => by cases x
  | .obj _ _, _, _, x, _ => by cases x
theorem Dw.readsAll (hok : HOk P w H h) (KX : K.In h) : ∀ (ds : List WData) (vs : List V) (us : List Value), DwAll K H vs ds → Vals vs us → ∃ as, ReadsAllW R cl h us ds as
  | [], _, _, x, r => by
    cases x
    cases r
    exact ⟨_, ReadsAllW.nil⟩
  | d :: ds, _, _, x, r => by
    cases x with
    | cons h1 h2 =>
      cases r with
      | cons r1 r2 =>
        obtain ⟨as, q1⟩ := Dw.reads hok KX d _ _ h1 r1
        obtain ⟨bs, q2⟩ := Dw.readsAll hok KX ds _ _ h2 r2
        exact ⟨_, ReadsAllW.cons q1 q2⟩
end
end
mutual
def plW : WData → Bool
  | .none => true
  | .bool _ => true
  | .int _ => true
  | .str _ => true
  | .bytes _ => true
  | .list xs => plWs xs
  | .tuple xs => plWs xs
  | _ => false
def plWs : List WData → Bool
  | [] => true
  | x :: r => plW x && plWs r
end
theorem plWs_map {α : Type} {f : α → WData} (h : ∀ a, plW (f a) = true) : ∀ l : List α, plWs (l.map f) = true
  | [] => rfl
  | x :: r => by
    show (plW (f x) && plWs (r.map f)) = true
    rw [h x, plWs_map h r] <;> rfl
theorem pl_enc : ∀ (c : Codec) (a : c.denote), plW (c.enc a) = true
  | .unit, _ => rfl
  | .bool, _ => rfl
  | .int _ _, _ => rfl
  | .nat _ _, _ => rfl
  | .u8, _ => rfl
  | .bytes _ _, _ => rfl
  | .text _ _ _ _, _ => rfl
  | .list _ _ c, a => plWs_map (fun x => pl_enc c x) a
  | .pair c d, a => by
    show (plW (c.enc a.1) && (plW (d.enc a.2) && true)) = true
    rw [pl_enc c a.1, pl_enc d a.2] <;> rfl
  | .triple c d e, a => by
    show (plW (c.enc a.1) && (plW (d.enc a.2.1) && (plW (e.enc a.2.2) && true))) = true
    rw [pl_enc c a.1, pl_enc d a.2.1, pl_enc e a.2.2] <;> rfl
  | .option c, none => rfl
  | .option c, some x => pl_enc c x
theorem pl_encAll : ∀ (cs : List Codec) (a : Codec.denoteAll cs), plWs (Codec.encAll cs a) = true
  | [], _ => rfl
  | c :: cs, a => by
    show (plW (c.enc a.1) && plWs (Codec.encAll cs a.2)) = true
    rw [pl_enc c a.1, pl_encAll cs a.2] <;> rfl
theorem weight_mem : ∀ {xs : List WData} {d : WData}, d ∈ xs → d.weight ≤ WData.weightAll xs
  | [], d, h => absurd h (by simp)
  | x :: r, d, h => by
    show d.weight ≤ x.weight + 1 + WData.weightAll r
    rcases List.mem_cons.mp h with e | m
    · rw [e]
      omega
    · have z := weight_mem m
      omega
def toV : Value → V
  | .none => .non
  | .bool b => .bl b
  | .int i _ => .int i
  | .str x _ => .str x
  | .bytes b _ => .byt b
  | .ref a => .ref a
  | _ => .non
def OkU (A : List Addr) : Value → Prop
  | .none => True
  | .bool _ => True
  | .int _ _ => True
  | .str _ _ => True
  | .bytes _ _ => True
  | .ref a => a ∈ A
  | _ => False
theorem OkU.mono {A B : List Addr} (h : ∀ a ∈ A, a ∈ B) : ∀ {u : Value}, OkU A u → OkU B u := fun {u} x => by
  cases u with
  | ref a => exact h a x
  | none => trivial
  | bool b => trivial
  | int i t => trivial
  | str s t => trivial
  | bytes b t => trivial
  | _ => exact False.elim x
theorem relV_toV {A : List Addr} {u : Value} (x : OkU A u) : RelV (toV u) u := by
  cases u with
  | ref a => rfl
  | none => rfl
  | bool b => rfl
  | int i t => exact ⟨t, rfl⟩
  | str s t => exact ⟨t, rfl⟩
  | bytes b t => exact ⟨t, rfl⟩
  | _ => exact False.elim x
theorem vals_toV {A : List Addr} : ∀ {vs : List Value}, (∀ u ∈ vs, OkU A u) → Vals (vs.map toV) vs
  | [], _ => .nil
  | u :: r, h => .cons (relV_toV (h u (List.mem_cons_self ..))) (vals_toV fun x hx => h x (List.mem_cons_of_mem _ hx))
def ArgOb (h : Heap) (A : List Addr) (a : Addr) : Prop := ∃ vs : List Value, vs.length ≤ sizeLine ∧ (∀ u ∈ vs, OkU A u) ∧
  (h.get? a = some { cls := .type "list", data := .seq vs.toArray } ∨ h.get? a = some { cls := .type "tuple", data := .seq vs.toArray })
theorem ArgOb.mono {h : Heap} {A B : List Addr} {a : Addr} (k : ∀ a ∈ A, a ∈ B) (x : ArgOb h A a) : ArgOb h B a := by
  obtain ⟨vs, h1, h2, h3⟩ := x
  exact ⟨vs, h1, fun u hu => (h2 u hu).mono k, h3⟩
theorem wellAll_len {P : Params} {h : Heap} : ∀ {vs : List Value} {ds : List WData}, WellAll P h vs ds → vs.length = ds.length
  | _, _, .nil => rfl
  | _, _, .cons _ b => by
    show _ + 1 = _ + 1
    rw [wellAll_len b]
theorem well_list {P : Params} {h : Heap} {v : Value} {ds : List WData} (x : Well P h v (.list ds)) : ∃ (a : Addr) (vs : List Value), v = .ref a ∧ h.get? a = some { cls := .type "list", data := .seq vs.toArray } ∧ WellAll P h vs ds := by
  cases x with
  | list ho hall => exact ⟨_, _, rfl, ho, hall⟩
theorem well_tuple {P : Params} {h : Heap} {v : Value} {ds : List WData} (x : Well P h v (.tuple ds)) : ∃ (a : Addr) (vs : List Value), v = .ref a ∧ h.get? a = some { cls := .type "tuple", data := .seq vs.toArray } ∧ WellAll P h vs ds := by
  cases x with
  | tuple ho hall => exact ⟨_, _, rfl, ho, hall⟩
theorem well_cons {P : Params} {h : Heap} {us : List Value} {d : WData} {ds : List WData} (x : WellAll P h us (d :: ds)) : ∃ (v : Value) (vs : List Value), us = v :: vs ∧ Well P h v d ∧ WellAll P h vs ds := by
  cases x with
  | cons a b => exact ⟨_, _, rfl, a, b⟩
theorem line_of {n : Nat} (h : n ≤ 1048576) : n ≤ sizeLine := Nat.le_trans h (by decide)
section
variable {P : Params} {h : Heap}
mutual
theorem area_one : ∀ (d : WData) (v : Value), Well P h v d → plW d = true → d.weight ≤ 1048576 → ∃ A : List Addr, OkU A v ∧ ∀ a ∈ A, ArgOb h A a
  | .none, _, x, _, _ => by
    cases x
    exact ⟨[], trivial, fun a m => absurd m (by simp)⟩
  | .bool b, _, x, _, _ => by
    cases x
    exact ⟨[], trivial, fun a m => absurd m (by simp)⟩
  | .int i, _, x, _, _ => by
    cases x
    exact ⟨[], trivial, fun a m => absurd m (by simp)⟩
  | .str s, _, x, _, _ => by
    cases x
    exact ⟨[], trivial, fun a m => absurd m (by simp)⟩
  | .bytes b, _, x, _, _ => by
    cases x
    exact ⟨[], trivial, fun a m => absurd m (by simp)⟩
  | .list ds, _, x, p, z => by
    obtain ⟨a, vs, rfl, ho, hall⟩ := well_list x
    have z2 : WData.weightAll ds ≤ 1048576 := z
    obtain ⟨A, h1, h2⟩ := area_all ds _ hall p fun d hd => Nat.le_trans (weight_mem hd) z2
    have k : ∀ b ∈ A, b ∈ a :: A := fun b hb => List.mem_cons_of_mem _ hb
    refine ⟨a :: A, List.mem_cons_self .., fun b hb => ?_⟩
    rcases List.mem_cons.mp hb with e | m
    · rw [e]
      exact ⟨vs, line_of (by rw [wellAll_len hall]; exact Nat.le_trans (PySem.W.length_le_weightAllW ds) z2), fun u hu => (h1 u hu).mono k, .inl ho⟩
    · exact (h2 b m).mono k
  | .tuple ds, _, x, p, z => by
    obtain ⟨a, vs, rfl, ho, hall⟩ := well_tuple x
    have z2 : WData.weightAll ds ≤ 1048576 := z
    obtain ⟨A, h1, h2⟩ := area_all ds _ hall p fun d hd => Nat.le_trans (weight_mem hd) z2
    have k : ∀ b ∈ A, b ∈ a :: A := fun b hb => List.mem_cons_of_mem _ hb
    refine ⟨a :: A, List.mem_cons_self .., fun b hb => ?_⟩
    rcases List.mem_cons.mp hb with e | m
    · rw [e]
      exact ⟨vs, line_of (by rw [wellAll_len hall]; exact Nat.le_trans (PySem.W.length_le_weightAllW ds) z2), fun u hu => (h1 u hu).mono k, .inr ho⟩
    · exact (h2 b m).mono k
  | .float _, _, _, p, _ => Bool.noConfusion (show false = true from p)
  | .dict _, _, _, p, _ => Bool.noConfusion (show false = true from p)
  | .bytearray _, _, _, p, _ => Bool.noConfusion (show false = true from p)
  | .set _, _, _, p, _ => Bool.noConfusion (show false = true from p)
  | .frozenset _, _, _, p, _ => Bool.noConfusion (show false = true from p)
  | .obj _ _, _, _, p, _ => Bool.noConfusion (show false = true from p)
theorem area_all : ∀ (ds : List WData) (vs : List Value), WellAll P h vs ds → plWs ds = true → (∀ d ∈ ds, d.weight ≤ 1048576) → ∃ A : List Addr, (∀ u ∈ vs, OkU A u) ∧ ∀ a ∈ A, ArgOb h A a
  | [], _, x, _, _ => by
    cases x
    exact ⟨[], fun u m => absurd m (by simp), fun a m => absurd m (by simp)⟩
  | d :: ds, _, x, p, z => by
    obtain ⟨v, vs, rfl, x1, x2⟩ := well_cons x
    have q : plW d = true ∧ plWs ds = true := Bool.and_eq_true_iff.mp p
    obtain ⟨A, a1, a2⟩ := area_one d v x1 q.1 (z d (List.mem_cons_self ..))
    obtain ⟨B, b1, b2⟩ := area_all ds vs x2 q.2 fun e he => z e (List.mem_cons_of_mem _ he)
    have kA : ∀ b ∈ A, b ∈ A ++ B := fun b hb => List.mem_append.mpr (.inl hb)
    have kB : ∀ b ∈ B, b ∈ A ++ B := fun b hb => List.mem_append.mpr (.inr hb)
    refine ⟨A ++ B, fun u hu => ?_, fun b hb => ?_⟩
    · rcases List.mem_cons.mp hu with e | m
      · rw [e]
        exact a1.mono kA
      · exact (b1 u m).mono kB
    · rcases List.mem_append.mp hb with m | m
      · exact (a2 b m).mono kA
      · exact (b2 b m).mono kB
end
end
def hoOf (o : Obj) : Option HO := match o.data with
  | .seq vs _ => if (o.cls == Value.type "list") = true then some (.frz o (.lst (vs.toList.map toV))) else some (.frz o (.tup (vs.toList.map toV)))
  | _ => none
def argH (K : PySem.W.Frag) (h : Heap) (A : List Addr) : Hp := fun b => if b ∈ A then (if (K.lookup b).isNone = true then (h.get? b).bind hoOf else none) else none
def OnlyF (H : Hp) : Prop := ∀ b, H b = none ∨ ∃ o u, H b = some (.frz o u)
theorem hoOf_lst (vs : List Value) : hoOf { cls := .type "list", data := .seq vs.toArray } = some (.frz { cls := .type "list", data := .seq vs.toArray } (.lst (vs.map toV))) := by
  show (if (Value.type "list" == Value.type "list") = true then some (HO.frz { cls := .type "list", data := .seq vs.toArray } (.lst (vs.toArray.toList.map toV))) else some (HO.frz { cls := .type "list", data := .seq vs.toArray } (.tup (vs.toArray.toList.map toV)))) = _
  rw [if_pos (beq_self_eq_true _)]
theorem hoOf_tup (vs : List Value) : hoOf { cls := .type "tuple", data := .seq vs.toArray } = some (.frz { cls := .type "tuple", data := .seq vs.toArray } (.tup (vs.map toV))) := by
  show (if (Value.type "tuple" == Value.type "list") = true then some (HO.frz { cls := .type "tuple", data := .seq vs.toArray } (.lst (vs.toArray.toList.map toV))) else some (HO.frz { cls := .type "tuple", data := .seq vs.toArray } (.tup (vs.toArray.toList.map toV)))) = _
  rw [if_neg (by decide)]
section
variable {P : Program} {w : World} {K : PySem.W.Frag} {h : Heap} {A : List Addr}
theorem argH_at {b : Addr} {o : Obj} (hb : b ∈ A) (hk : K.lookup b = none) (e : h.get? b = some o) : argH K h A b = hoOf o := by
  unfold argH
  rw [if_pos hb, hk, if_pos (show (none : Option Obj).isNone = true from rfl), e] <;> rfl
theorem of_argH {b : Addr} {u : HO} (q : argH K h A b = some u) : b ∈ A ∧ K.lookup b = none := by
  unfold argH at q
  by_cases hb : b ∈ A
  · rw [if_pos hb] at q
    cases hk : K.lookup b with
    | none => exact ⟨hb, rfl⟩
    | some o =>
      rw [hk, if_neg (by simp)] at q
      cases q
  · rw [if_neg hb] at q
    cases q
theorem argH_is (ar : ∀ a ∈ A, ArgOb h A a) {b : Addr} {u : HO} (q : argH K h A b = some u) : K.lookup b = none ∧ ∃ vs : List Value, vs.length ≤ sizeLine ∧ (∀ u ∈ vs, OkU A u) ∧
    ((h.get? b = some { cls := .type "list", data := .seq vs.toArray } ∧ u = .frz { cls := .type "list", data := .seq vs.toArray } (.lst (vs.map toV))) ∨
     (h.get? b = some { cls := .type "tuple", data := .seq vs.toArray } ∧ u = .frz { cls := .type "tuple", data := .seq vs.toArray } (.tup (vs.map toV)))) := by
  obtain ⟨hb, hk⟩ := of_argH q
  obtain ⟨vs, h1, h2, h3⟩ := ar b hb
  refine ⟨hk, vs, h1, h2, ?_⟩
  rcases h3 with e | e
  · rw [argH_at hb hk e, hoOf_lst] at q
    exact .inl ⟨e, (Option.some.inj q).symm⟩
  · rw [argH_at hb hk e, hoOf_tup] at q
    exact .inr ⟨e, (Option.some.inj q).symm⟩
theorem argH_only (ar : ∀ a ∈ A, ArgOb h A a) : OnlyF (argH K h A) := fun b => by
  cases q : argH K h A b with
  | none => exact .inl rfl
  | some u =>
    obtain ⟨_, vs, _, _, ⟨_, e⟩ | ⟨_, e⟩⟩ := argH_is ar q
    · exact .inr ⟨_, _, by rw [e]⟩
    · exact .inr ⟨_, _, by rw [e]⟩
theorem argH_ok (ar : ∀ a ∈ A, ArgOb h A a) : HOk P w (argH K h A) h := fun b u q => by
  obtain ⟨_, vs, h1, h2, ⟨e, rfl⟩ | ⟨e, rfl⟩⟩ := argH_is ar q
  · exact ⟨e, by rw [List.length_map]; exact h1, vs, _, vals_toV h2, e⟩
  · exact ⟨e, by rw [List.length_map]; exact h1, vs, vals_toV h2, _, e, rfl, _, rfl⟩
theorem seq_inj {c c' : Value} {vs us : List Value} (e : (some { cls := c, data := .seq vs.toArray } : Option Obj) = some { cls := c', data := .seq us.toArray }) : c = c' ∧ vs = us := by
  have e1 := Option.some.inj e
  have e2 : c = c' := congrArg Obj.cls e1
  have e3 : Data.seq vs.toArray = Data.seq us.toArray := congrArg Obj.data e1
  injection e3 with e4
  refine ⟨e2, ?_⟩
  have e5 := congrArg Array.toList e4
  simpa using e5
theorem argL (KX : K.In h) (ar : ∀ a ∈ A, ArgOb h A a) {a : Addr} {vs : List Value} (ha : a ∈ A) (e : h.get? a = some { cls := .type "list", data := .seq vs.toArray }) : (∀ u ∈ vs, OkU A u) ∧ SqL K (argH K h A) a (vs.map toV) := by
  obtain ⟨us, h1, h2, h3⟩ := ar a ha
  have hu : us = vs := by
    rcases h3 with q | q
    · rw [e] at q
      exact (seq_inj q).2.symm
    · rw [e] at q
      exact absurd (Value.type.inj (seq_inj q).1) (by decide)
  subst hu
  refine ⟨h2, ?_⟩
  cases hk : K.lookup a with
  | none => exact .inl (.inr ⟨_, by rw [argH_at ha hk e, hoOf_lst]⟩)
  | some o =>
    have e2 := KX a o hk
    rw [e] at e2
    obtain rfl := Option.some.inj e2
    exact .inr ⟨_, us.toArray, _, hk, rfl, rfl, rfl, by rw [List.size_toArray]; exact h1, by simpa using vals_toV h2⟩
theorem argT (KX : K.In h) (ar : ∀ a ∈ A, ArgOb h A a) {a : Addr} {vs : List Value} (ha : a ∈ A) (e : h.get? a = some { cls := .type "tuple", data := .seq vs.toArray }) : (∀ u ∈ vs, OkU A u) ∧ SqT K (argH K h A) a (vs.map toV) := by
  obtain ⟨us, h1, h2, h3⟩ := ar a ha
  have hu : us = vs := by
    rcases h3 with q | q
    · rw [e] at q
      exact absurd (Value.type.inj (seq_inj q).1) (by decide)
    · rw [e] at q
      exact (seq_inj q).2.symm
  subst hu
  refine ⟨h2, ?_⟩
  cases hk : K.lookup a with
  | none => exact .inl (.inr ⟨_, by rw [argH_at ha hk e, hoOf_tup]⟩)
  | some o =>
    have e2 := KX a o hk
    rw [e] at e2
    obtain rfl := Option.some.inj e2
    exact .inr ⟨_, us.toArray, _, hk, rfl, rfl, by rw [List.size_toArray]; exact h1, by simpa using vals_toV h2⟩
mutual
theorem dw_one {Pm : Params} (KX : K.In h) (ar : ∀ a ∈ A, ArgOb h A a) : ∀ (d : WData) (v : Value), Well Pm h v d → plW d = true → OkU A v → Dw K (argH K h A) (toV v) d
  | .none, _, x, _, _ => by
    cases x
    exact .non
  | .bool b, _, x, _, _ => by
    cases x
    exact .bl b
  | .int i, _, x, _, _ => by
    cases x
    exact .int i
  | .str s, _, x, _, _ => by
    cases x
    exact .str s
  | .bytes b, _, x, _, _ => by
    cases x
    have z := Dw.byt (K := K) (H := argH K h A) b.toArray
    exact z
  | .list ds, _, x, p, hu => by
    obtain ⟨a, vs, rfl, ho, hall⟩ := well_list x
    obtain ⟨h2, hs⟩ := argL KX ar hu ho
    exact .lst hs (dw_all KX ar ds _ hall p h2)
  | .tuple ds, _, x, p, hu => by
    obtain ⟨a, vs, rfl, ho, hall⟩ := well_tuple x
    obtain ⟨h2, hs⟩ := argT KX ar hu ho
    exact .tup hs (dw_all KX ar ds _ hall p h2)
  | .float _, _, _, p, _ => Bool.noConfusion (show false = true from p)
  | .dict _, _, _, p, _ => Bool.noConfusion (show false = true from p)
  | .bytearray _, _, _, p, _ => Bool.noConfusion (show false = true from p)
  | .set _, _, _, p, _ => Bool.noConfusion (show false = true from p)
  | .frozenset _, _, _, p, _ => Bool.noConfusion (show false = true from p)
  | .obj _ _, _, _, p, _ => Bool.noConfusion (show false = true from p)
theorem dw_all {Pm : Params} (KX : K.In h) (ar : ∀ a ∈ A, ArgOb h A a) : ∀ (ds : List WData) (vs : List Value), WellAll Pm h vs ds → plWs ds = true → (∀ u ∈ vs, OkU A u) → DwAll K (argH K h A) (vs.map toV) ds
  | [], _, x, _, _ => by
    cases x
    exact .nil
  | d :: ds, _, x, p, hu => by
    obtain ⟨v, vs, rfl, x1, x2⟩ := well_cons x
    have q : plW d = true ∧ plWs ds = true := Bool.and_eq_true_iff.mp p
    exact .cons (dw_one KX ar d v x1 q.1 (hu _ (List.mem_cons_self ..))) (dw_all KX ar ds vs x2 q.2 fun u m => hu u (List.mem_cons_of_mem _ m))
end
end
theorem spec_call {P : Program} {w : World} {K : PySem.W.Frag} {mg mb : Str → Option Value} {CX : CXT} {k : Nat} {fa : Addr} {fd : FuncData} {ps : List Str} {sp : Sp} {s₁ : Shared} {vals : List Value} {ds : List WData} {R : PySem.W.WRecords} {cl : Str → Option Addr} {d0 : WData}
    (KX : K.In s₁.heap) (hns : s₁.heap.Ns mainGlobals mg) (hb : s₁.heap.Ns builtinsNs mb) (hbb : ∀ x : Str, x ≠ "__name__" → mb x = bootBuiltins x) (hlim : s₁.heap.NoLimit) (hg : s₁.gens = #[])
    (hwl : WellAll w.params s₁.heap vals ds) (hpl : plWs ds = true) (hwt : ∀ d ∈ ds, d.weight ≤ 1048576) (hr : Room k callerA)
    (F : ∀ base : Heap, K.In base → base.Ns mainGlobals mg → FnOk P w K mg base CX k fa fd ps sp) (hbind : ∀ (s : Shared) (us : List Value), us.length = ps.length → BindsTo s fd ⟨us, []⟩ (ps.zip us)) (hlen : ds.length = ps.length)
    (hsp : ∀ (H : Hp) (xs : List V), OnlyF H → DwAll K H xs ds → sp xs H (fun v H' => Dw K H' v d0) fun _ _ _ => False)
    (hCX : ∀ H e s', CX [] H s₁ (fun _ _ _ => False) e s' → False) :
    codeAny (model P w) callerA (.call (.ref fa) ⟨vals, []⟩) (fun r s' => ∃ u as, r = .ok (.ret u) ∧ ReadsW R cl s'.heap u d0 as ∧ OldK s₁.heap s'.heap ∧ s'.os = s₁.os ∧ AllBare s'.gens) s₁ := by
  obtain ⟨A, ho, ar⟩ := area_all ds vals hwl hpl hwt
  have hO : OnlyF (argH K s₁.heap A) := argH_only ar
  have hok : HOk P w (argH K s₁.heap A) s₁.heap := argH_ok ar
  have hS := dw_all KX ar ds vals hwl hpl ho
  have hV := vals_toV ho
  have hK : ∀ b u, argH K s₁.heap A b = some u → K.lookup b = none := fun b u q => (argH_is ar q).1
  have noA : ∀ {b : Addr} {o : Obj} {es : Array DictEntry} {ep : Nat}, s₁.heap.get? b = some o → o.data = .dict es ep → argH K s₁.heap A b = none := fun {b o es ep} e d => by
    cases q : argH K s₁.heap A b with
    | none => rfl
    | some u =>
      obtain ⟨_, vs, _, _, ⟨e2, _⟩ | ⟨e2, _⟩⟩ := argH_is ar q
      · rw [e2] at e
        cases e
        have d' : Data.seq vs.toArray _ = Data.dict es ep := d
        cases d'
      · rw [e2] at e
        cases e
        have d' : Data.seq vs.toArray _ = Data.dict es ep := d
        cases d'
  generalize argH K s₁.heap A = H at hO hok hS hK noA
  have base_of : ∀ {b : Addr} {o : Obj}, s₁.heap.get? b = some o → H b = none → (hidT s₁.heap H).get? b = some o := fun e n => hidT_get e n
  have nsK : ∀ {b : Addr} {m : Str → Option Value}, s₁.heap.Ns b m → (hidT s₁.heap H).Ns b m := fun {b m} ⟨o, es, ep, e, d, r⟩ => ⟨o, es, ep, base_of e (noA e d), d, r⟩
  have nK : ∀ b o, K.lookup b = some o → H b = none := fun b o e => by
    cases q : H b with
    | none => rfl
    | some u =>
      rw [hK b u q] at e
      cases e
  have hKb : K.In (hidT s₁.heap H) := fun b o e => base_of (KX b o e) (nK b o e)
  have hM : Mod K mg (hidT s₁.heap H) := ⟨hKb, nsK hns, ⟨mb, nsK hb, hbb⟩, let ⟨mc, h1, h2⟩ := hlim; ⟨mc, nsK h1, h2⟩⟩
  have e0 : Env0 P w K mg (hidT s₁.heap H) callerA [] s₁ H := ⟨rfl, hM, fun b o e => of_hidT e, Nat.le_of_eq (hidT_size _ _), trivial, fun b hb => absurd (show b ∈ ([] : List Addr) from hb) (by simp), hok, .of_eq hg⟩
  have hl : vals.length = ps.length := by rw [wellAll_len hwl]; exact hlen
  refine codeAny_mono ((F _ hKb (nsK hns)).run callerA [] s₁ H ⟨vals, []⟩ vals (vals.map toV) _ _ hr e0 (hbind s₁ vals hl) hV (hsp H _ hO hS)) fun r s' x => ?_
  cases r with
  | error e => exact (hCX H e s' x).elim
  | ok fl =>
    cases fl with
    | next => exact False.elim x
    | brk => exact False.elim x
    | cont => exact False.elim x
    | ret u =>
      obtain ⟨v, H', os, bare, un, hok', r', q⟩ := x
      have kept : ∀ b o, s₁.heap.get? b = some o → s'.heap.get? b = some o := fun b o e => by
        cases q2 : H b with
        | none => exact un.keep b o e q2 (by intro z; exact absurd (show b ∈ ([] : List Addr) from z) (by simp)) (by simp)
        | some u2 =>
          rcases hO b with z | ⟨ob, u3, z⟩
          · rw [q2] at z
            cases z
          · have z2 := un.frzs b ob _ z
            obtain ⟨e1, _⟩ := hok b _ z
            obtain ⟨e2, _⟩ := hok' b _ z2
            rw [e] at e1
            cases e1
            exact e2
      have KX' : K.In s'.heap := fun b o e => kept b o (KX b o e)
      obtain ⟨as, hrd⟩ := Dw.reads (R := R) (cl := cl) hok' KX' d0 v u q r'
      exact ⟨u, as, rfl, hrd, OldK.of_keep kept, os, bare⟩
theorem layable_weight {ds : List WData} (h : WData.layableAll ds = true) : ∀ d ∈ ds, d.weight ≤ 1048576 := fun d hd =>
  (PySem.W.layableW_iff.mp (List.all_eq_true.mp h d hd)).2.2
theorem encAll_len : ∀ (cs : List Codec) (a : Codec.denoteAll cs), (Codec.encAll cs a).length = cs.length
  | [], _ => rfl
  | c :: cs, a => by
    show (Codec.encAll cs a.2).length + 1 = cs.length + 1
    rw [encAll_len cs a.2]
theorem walk_spec {r : OpenSpec} {k : Nat} {q : Program} {loose : List Str} {XP : (Str → Option Value) → Heap → Prop} {YP : World → Heap → Prop} {d : DefRec} {K : Params → PySem.W.Frag} {CX : World → CXT} {ps : List Str} {sp : World → Sp}
    (hwell : r.wellSaid = true) (hdf : d.params.defaults = []) (hlen : r.args.length = ps.length) (hr : Room k callerA)
    (hY : ∀ (w : World) (h : Heap), YP w h → (K w.params).In h)
    (F : ∀ (w : World) (mg : Str → Option Value) (fa : Addr) (h : Heap), YP w h → (K w.params).In h → h.Ns mainGlobals mg → mg d.name = some (.ref fa) →
      ∃ fd : FuncData, (∀ (s : Shared) (us : List Value), us.length = ps.length → BindsTo s fd ⟨us, []⟩ (ps.zip us)) ∧
        ∀ base : Heap, (K w.params).In base → base.Ns mainGlobals mg → FnOk r.prog w (K w.params) mg base (CX w) k fa fd ps (sp w))
    (hsp : ∀ (w : World) (H : Hp) (xs : List V) (a : Codec.denoteAll r.args), OnlyF H → Codec.withinAll r.args a = true → Codec.app r.args r.asked a = true → DwAll (K w.params) H xs (Codec.encAll r.args a) →
      sp w xs H (fun v H' => Dw (K w.params) H' v (r.ret.enc (Codec.app r.args r.f a))) fun _ _ _ => False)
    (hCX : ∀ (w : World) (H : Hp) (s : Shared) (e : Value) (s' : Shared), CX w [] H s (fun _ _ _ => False) e s' → False) :
    PySem.W.WalkOS q loose XP YP r d [] (fun f vs => PySem.call f vs) := by
  intro w s_0 s₁ mg mb G Y fa o pm cd doc dV kV ho hd hcd hD hmg hg args vals as hpre hlay hrd hwl hlo
  obtain ⟨a, e1, e2⟩ := PySem.W.os_pre_some hpre
  obtain ⟨e3, hwi⟩ := Codec.encAll_of_decAll r.args args a e1
  subst e3
  have KX := hY w _ Y
  obtain ⟨fd, hb, hF⟩ := F w mg fa _ Y KX G.T.g hmg
  refine PySem.W.enter_call (codeAny_mono (spec_call (R := []) (cl := classAt s_0.heap) (d0 := r.ret.enc (Codec.app r.args r.f a)) KX G.T.g G.T.b G.T.builtins G.T.nolimit hg hwl (pl_encAll _ _) (layable_weight hlay) hr hF hb (by rw [encAll_len]; exact hlen)
    (fun H xs hO hS => hsp w H xs a hO hwi e2 hS) fun H e s' => hCX w H s₁ e s') fun r' s' hq => ?_)
  obtain ⟨u, as', rfl, h1, h2, h3, h4⟩ := hq
  exact ⟨.inl ⟨u, _, as', rfl, fun _ => rfl, h1, (OpenSpec.post_iff hwell hwi _ _).mpr rfl, fun z => Bool.noConfusion (show false = true from z)⟩, h2, h3, h4⟩
theorem walk_specK {r : OpenSpec} {k : Nat} {q : Program} {loose : List Str} {XP : (Str → Option Value) → Heap → Prop} {YP : World → Heap → Prop} {d : DefRec} {K : Params → PySem.W.Frag} {CX : CXT} {ps : List Str} {sp : PySem.W.Frag → Sp}
    (hwell : r.wellSaid = true) (hdf : d.params.defaults = []) (hlen : r.args.length = ps.length) (hr : Room k callerA)
    (hY : ∀ (w : World) (h : Heap), YP w h → (K w.params).In h)
    (F : ∀ (w : World) (mg : Str → Option Value) (fa : Addr) (h : Heap), YP w h → (K w.params).In h → h.Ns mainGlobals mg → mg d.name = some (.ref fa) →
      ∃ fd : FuncData, (∀ (s : Shared) (us : List Value), us.length = ps.length → BindsTo s fd ⟨us, []⟩ (ps.zip us)) ∧
        ∀ base : Heap, (K w.params).In base → base.Ns mainGlobals mg → FnOk r.prog w (K w.params) mg base CX k fa fd ps (sp (K w.params)))
    (hsp : ∀ (K : PySem.W.Frag) (H : Hp) (xs : List V) (a : Codec.denoteAll r.args), OnlyF H → Codec.withinAll r.args a = true → Codec.app r.args r.asked a = true → DwAll K H xs (Codec.encAll r.args a) →
      sp K xs H (fun v H' => Dw K H' v (r.ret.enc (Codec.app r.args r.f a))) fun _ _ _ => False)
    (hCX : ∀ (H : Hp) (s : Shared) (e : Value) (s' : Shared), CX [] H s (fun _ _ _ => False) e s' → False) :
    PySem.W.WalkOS q loose XP YP r d [] (fun f vs => PySem.call f vs) :=
  walk_spec (K := K) (CX := fun _ => CX) (sp := fun w => sp (K w.params)) hwell hdf hlen hr hY F (fun w H xs a h1 h2 h3 h4 => hsp (K w.params) H xs a h1 h2 h3 h4) fun _ H s e s' => hCX H s e s'
end L2
end
end
section
set_option Elab.async false
set_option linter.all false
set_option maxRecDepth 100000
namespace Xc
open PySem PySem.Spec PyProof.Rows
section
variable {prog : Program} {w : World} {A : Around} {R : Result → Shared → Prop} {h : Heap} {g : Array GenState} {d : Drawn} {t : Nat} {os : OsState}
variable {nm q : Str} {C N : Addr} {bs bm : List Value} {hdct : Bool} {sn : List Str} {sub : List Value} {ab : Bool} {col : Option Bool} {dd : Option Addr} {k0 k1 k2 k3 k5 : Option Value} {B newId initId : String}
abbrev newX (h : Heap) (C : Addr) (rest : List Value) : Heap := (h.push { cls := .type "tuple", data := .seq rest.toArray }).push { cls := .ref C, data := .fields #[.ref h.objs.size, .none, .none, .none, .bool false, .none] }
abbrev objX (C t : Addr) : Obj := { cls := .ref C, data := .fields #[.ref t, .none, .none, .none, .bool false, .none] }
theorem typeCall (F : ExcBaseFacts B newId initId bm) {mN : Str → Option Value} {rest : List Value} {fI : Addr} {oF : Obj} {Q : Fin → Shared → Prop} {E : Value → Shared → Prop}
    (hC : h.get? C = some (excClassObj nm q C N bs bm hdct sn sub ab col dd k0 k1 k2 k3 k5 newId)) (hn : h.Ns N mN) (hi : mN "__init__" = some (.ref fI)) (hf : h.get? fI = some oF) (hfc : oF.cls = .type "function")
    (hq : codeAny (model prog w) A (.call (.ref fI) ⟨.ref (h.objs.size + 1) :: rest, []⟩) (fun r s' => match r with
      | .ok (.ret v) => v = .none ∧ Q (.done (.ret (.ref (h.objs.size + 1)))) s'
      | .ok _ => False
      | .error e => E e s') ⟨newX h C rest, g, d, t, os⟩) (hrest : rest.length ≤ sizeLine) :
    wpAny (model prog w) A (Builtin.«type.__call__» ⟨.ref C :: rest, []⟩) Q E ⟨h, g, d, t, os⟩ := by
  repeat (first | with_reducible refine wpAny_loadPart_at hC ?_ | with_reducible refine wpAny_madeBy_exc hC ?_ | wp_step)
  refine codeAny_call_builtin_code (Code.quiet_builtin _ F.quiet) (wpAny_check_new_sub F hC ?_)
  refine codeAny_exc_new_sub F hC ?_ hrest
  show wpAny _ _ _ _ _ _
  have hC1 : (newX h C rest).get? C = some (excClassObj nm q C N bs bm hdct sn sub ab col dd k0 k1 k2 k3 k5 newId) := Heap.get?_push_of_some _ (Heap.get?_push_of_some _ hC)
  have hn1 : (newX h C rest).Ns N mN := let ⟨o, es, ep, e, r⟩ := hn; ⟨o, es, ep, Heap.get?_push_of_some _ (Heap.get?_push_of_some _ e), r⟩
  have hf1 : (newX h C rest).get? fI = some oF := Heap.get?_push_of_some _ (Heap.get?_push_of_some _ hf)
  have hget : (newX h C rest).get? (h.objs.size + 1) = some (objX C h.objs.size) := by unfold newX objX; heap_get
  have hcC : (Value.ref C :: bm).contains (.ref C) = true := by simp
  unfold isInstance
  repeat (first | with_reducible refine wpAny_loadPart_at hget ?_ | (with_reducible refine wpAny_isSubtype_exc hC1 ?_; rw [hcC]) | wp_step)
  show wpAny _ _ (typeLookup (.ref C) _) _ _ _
  refine wpAny_typeLookup_exc hC1 hn1 F.mroIs F.init.lookup ?_
  rw [hi]
  have hT : (⟨newX h C rest, g, d, t, os⟩ : Shared).TypeIs (.ref fI) "function" := ⟨_, hf1, hfc⟩
  refine wpAny_holding (wpAny_bind ?_)
  have hb : ∀ {P : Value × List Value → Shared → Prop}, P (.ref fI, [.ref (h.objs.size + 1)]) ⟨newX h C rest, g, d, t, os⟩ → wpAny (model prog w) A (bindSpecial (.ref fI) (.ref (h.objs.size + 1))) P E ⟨newX h C rest, g, d, t, os⟩ := fun {P} hp => by
    unfold bindSpecial
    repeat (any_goals (first | assumption | (with_reducible refine wpAny_loadPart_at hf1 ?_; rw [hfc]) | wp_step))
  refine hb ?_
  refine wpAny_bind (wpAny_call (codeAny_mono hq fun r s' z => ?_))
  rcases r with e | (v | _ | _ | _) <;> first | exact z | exact z.elim | skip
  obtain ⟨rfl, z⟩ := z
  exact wpAny_pure (wpAny_pure z)
theorem make (F : ExcBaseFacts B newId initId bm) {mN : Str → Option Value} {rest : List Value} {fI : Addr} {oF : Obj}
    (hC : h.get? C = some (excClassObj nm q C N bs bm hdct sn sub ab col dd k0 k1 k2 k3 k5 newId)) (hn : h.Ns N mN) (hi : mN "__init__" = some (.ref fI)) (hf : h.get? fI = some oF) (hfc : oF.cls = .type "function")
    (hq : codeAny (model prog w) (A.under (.builtin "type.__call__" ⟨.ref C :: rest, []⟩)) (.call (.ref fI) ⟨.ref (h.objs.size + 1) :: rest, []⟩) (PySem.W.InitBack (h.objs.size + 1) R) ⟨newX h C rest, g, d, t, os⟩) (hrest : rest.length ≤ sizeLine) :
    codeAny (model prog w) A (.call (.ref C) ⟨rest, []⟩) R ⟨h, g, d, t, os⟩ := by
  have f1 := tc_lookup
  have f2 := tc_bind (.ref C)
  have hT : (⟨h, g, d, t, os⟩ : Shared).TypeIs (.ref C) "type" := ⟨_, hC, rfl⟩
  refine codeAny_of_tree ?_
  show wpAny _ _ (callAny (.ref C) _) _ _ _
  repeat (any_goals (first | assumption | (with_reducible refine wpAny_loadPart_at hC ?_) | wp_step))
  refine ⟨rfl, ?_⟩
  refine codeAny_call_builtin_at (Code.quiet_builtin _ (by decide +kernel)) entry_typeCall (wpAny_check_type_call_sub hC ?_)
  refine typeCall F hC hn hi hf hfc (codeAny_mono hq fun r s' z => ?_) hrest
  rcases r with e | (v | _ | _ | _) <;> exact z
end
section
variable {prog : Program} {w : World} {A : Around} {E : Value → Shared → Prop} {h : Heap} {g : Array GenState} {d : Drawn} {t : Nat} {os : OsState}
variable {nm q : Str} {C N x : Addr} {bs : List Value} {sn : List Str} {sub : List Value} {ab : Bool} {col : Option Bool} {dd : Option Addr} {k0 k1 k2 k3 k5 : Option Value} {newId : String} {mN mA : Str → Option Value} {name : Str} {v : Value}
abbrev bmE : List Value := [.type "Exception", .type "BaseException", .type "object"]
theorem gaCheck {M : Model} {nameV : Value} {o : Obj} {Q : Unit → Shared → Prop} (hC : h.get? C = some (excClassObj nm q C N bs bmE true sn sub ab col dd k0 k1 k2 k3 k5 newId)) (hx : h.get? x = some o) (hc : o.cls = .ref C) (hq : Q () ⟨h, g, d, t, os⟩) :
    wpAny M A (checkBuiltinCall "BaseException.__getattribute__" ⟨[.ref x, nameV], []⟩) Q E ⟨h, g, d, t, os⟩ := by
  have e1 : builtinKind "BaseException.__getattribute__" = some .slot := by decide +kernel
  have e2 : splitId "BaseException.__getattribute__" = some ("BaseException", "__getattribute__") := by decide +kernel
  have e0 : bmE.contains (.type "BaseException") = true := by decide
  have e3 : (Value.ref C :: bmE).contains (.type "BaseException") = true := by rw [List.contains_cons, e0, Bool.or_true]
  have ha := PySem.F.args_bexc_ga (.ref x) nameV
  simp only [checkBuiltinCall, e1, e2]
  refine wpAny_bind ?_
  unfold isInstance
  repeat (first | (with_reducible refine wpAny_loadPart_at hx ?_; rw [hc]) | (with_reducible refine wpAny_isSubtype_exc hC ?_; rw [e3]) | wp_step)
  exact hq
theorem gaEntry {tk : Tok} {Q : Fin → Shared → Prop} (hC : h.get? C = some (excClassObj nm q C N bs bmE true sn sub ab col dd k0 k1 k2 k3 k5 newId)) (hn : h.Ns N mN) (hna : mN name = none)
    (hB : typeLookup (.type "Exception") name = pure none) (I : h.Inst x C mA) (hv : mA name = some v) (hq : Q (.done (.ret v)) ⟨h, g, d, t, os⟩) :
    wpAny (model prog w) A (Builtin.«object.__getattribute__» ⟨[.ref x, .str name tk], []⟩) Q E ⟨h, g, d, t, os⟩ := by
  obtain ⟨o, hx, hc, hnc, hd⟩ := I
  rcases hd with ⟨_, hmA⟩ | ⟨dx, hdx, hne, hns⟩
  · rw [hmA name] at hv; cases hv
  have hm := PySem.F.attrBase_Exception.mro
  unfold Builtin.«object.__getattribute__»
  repeat (first | (with_reducible refine wpAny_loadPart_at hx ?_; rw [hc]) | (with_reducible refine wpAny_typeLookup_exc hC hn hm hB ?_; rw [hna]) | wp_step)
  split
  · rename_i c hcd
    exact absurd hcd (hnc c)
  unfold instanceDict
  repeat (first | (with_reducible refine wpAny_loadPart_at hx ?_; rw [hc]) | with_reducible refine wpAny_loadPart_at hC ?_ | wp_step)
  rw [hdx]
  repeat (first | (with_reducible refine wpAny_nsGet hns.ns ?_; rw [hv]) | wp_step)
  exact hq
theorem loadX {expr : Bool} {Q : Value → Shared → Prop} (hC : h.get? C = some (excClassObj nm q C N bs bmE true sn sub ab col dd k0 k1 k2 k3 k5 newId)) (hn : h.Ns N mN) (hng : mN "__getattribute__" = none) (hgh : mN "__getattr__" = none)
    (hna : mN name = none) (hB : typeLookup (.type "Exception") name = pure none) (I : h.Inst x C mA) (hv : mA name = some v) (hh : handedOut v = pure v) (hq : Q v ⟨h, g, d, t + 1, os⟩) :
    wpAny (model prog w) A (getAttr (.ref x) name expr) Q E ⟨h, g, d, t, os⟩ := by
  obtain ⟨o, hx, hc, _⟩ := id I
  have FB := PySem.F.attrBase_Exception
  have f3 := FB.ga.bind (.ref x)
  have f4 := FB.ga.lookup
  have f5 := FB.noGetattr
  have f6 := FB.mro
  have hx0 : (expr && onTheHeap (Value.builtin "BaseException.__getattribute__")) = false := by cases expr <;> rfl
  have hx2 : (Value.builtin "BaseException.__getattribute__" == Value.builtin "object.__getattribute__") = false := by decide +kernel
  have hx1 : (onTheHeap (Value.ref C) && Value.builtin "BaseException.__getattribute__" == Value.builtin "object.__getattribute__") = false := by rw [hx2]; rfl
  unfold getAttr getAttrBy
  repeat (any_goals (first | assumption | (with_reducible refine wpAny_loadPart_at hx ?_; rw [hc]) | (with_reducible refine wpAny_typeLookup_exc hC hn f6 f4 ?_; rw [hng]) | (with_reducible refine wpAny_typeLookup_exc hC hn f6 f5 ?_; rw [hgh]) | wp_step))
  refine codeAny_call_builtin FB.ga.plain PySem.F.entry_bexc_ga (gaCheck hC hx hc (gaEntry hC hn hna hB I hv ?_))
  show wpAny _ _ (handedOut v) _ _ _
  rw [hh]
  exact wpAny_pure hq
end
def XAt (h : Heap) (e C dx : Addr) (tb : Value) : Prop := ∃ oe vs, h.get? e = some oe ∧ oe.cls = .ref C ∧ oe.dict = some dx ∧ oe.data = .fields vs ∧ vs[1]? = some tb
def TbAt (h : Heap) (T : Addr) (fl : Value) : Prop := ∃ oT ts, h.get? T = some oT ∧ oT.data = .fields ts ∧ ts[3]? = some fl
structure Ch (fs ch : List Addr) (h h' : Heap) : Prop where
  keep : ∀ b o, b ∉ ch → b ∉ fs → h.get? b = some o → h'.get? b = some o
  slot : ∀ b o, b ∉ ch → h.get? b = some o → ∃ sl, h'.get? b = some { o with slots := sl }
  there : ∀ b o, h.get? b = some o → ∃ o', h'.get? b = some o'
theorem dict_mapFields (o : Obj) (f : Array Value → Array Value) : (o.mapFields f).dict = o.dict := by
  obtain ⟨c, d, dt, sl⟩ := o
  cases dt <;> rfl
theorem Ch.update {fs ch : List Addr} {h : Heap} {a : Addr} {f : Obj → Obj} (ha : a ∈ ch) (hx : ∃ o, (h.update a f).get? a = some o) : Ch fs ch h (h.update a f) :=
  ⟨fun b o hb _ q => by rw [Heap.get?_update_other _ _ (fun z => hb (by rw [← z]; exact ha))]; exact q,
   fun b o hb q => ⟨o.slots, by rw [Heap.get?_update_other _ _ (fun z => hb (by rw [← z]; exact ha))]; exact q⟩,
   fun b o q => by
    by_cases z : a = b
    · subst z; exact hx
    · exact ⟨o, by rw [Heap.get?_update_other _ _ z]; exact q⟩⟩
theorem Ch.trans {fs ch : List Addr} {h h1 h2 : Heap} (x : Ch fs ch h h1) (y : Ch fs ch h1 h2) : Ch fs ch h h2 :=
  ⟨fun b o hb hf q => y.keep b o hb hf (x.keep b o hb hf q), fun b o hb q => by
    obtain ⟨s1, e1⟩ := x.slot b o hb q
    obtain ⟨s2, e2⟩ := y.slot b _ hb e1
    exact ⟨s2, e2⟩, fun b o q => by
    obtain ⟨o1, e1⟩ := x.there b o q
    exact y.there b o1 e1⟩
theorem Ch.mono {fs ch ch' : List Addr} {h h1 : Heap} (x : Ch fs ch h h1) (hs : ∀ b ∈ ch, b ∈ ch') : Ch fs ch' h h1 :=
  ⟨fun b o hb => x.keep b o fun z => hb (hs b z), fun b o hb => x.slot b o fun z => hb (hs b z), x.there⟩
section
variable {M : Model} {A : Around} {E : Value → Shared → Prop} {s : Shared}
theorem setField3 {T : Addr} {fl v : Value} {ch fs : List Addr} {Q : Unit → Shared → Prop} (ht : TbAt s.heap T fl) (hT : T ∈ ch) (h : ∀ h', Ch fs ch s.heap h' → TbAt h' T v → (∀ b, b ≠ T → h'.get? b = s.heap.get? b) → h'.objs.size = s.heap.objs.size → Q () { s with heap := h' }) :
    wpAny M A (setField (.ref T) 3 v) Q E s := by
  obtain ⟨oT, ts, h1, h2, h3⟩ := ht
  have hs : 3 < ts.size := (Array.getElem?_eq_some_iff.mp h3).1
  have hg := Heap.get?_update_self (Obj.mapFields (·.setIfInBounds 3 v)) h1 (Obj.isFreed_of_fields (Obj.data_mapFields h2 _))
  refine wpAny_setField h1 h2 hs (h _ (Ch.update hT ⟨_, hg⟩) ⟨_, _, hg, Obj.data_mapFields h2 _, by simp [hs]⟩ (fun b hb => Heap.get?_update_other _ _ (Ne.symm hb)) (Heap.size_after_update ..))
theorem entryX {base : Heap} {env : Env} {outer : List Env} {L e C dx : Addr} {tb head : Value} {hadNext : Bool} {ch : List Addr} {Q : Unit → Shared → Prop} (hfr : A.frames = some (env :: outer)) (hl : s.heap.FunFrames base (env :: outer)) (hf : env.frame = some L)
    (hx : XAt s.heap e C dx tb) (hc : e ∈ ch)
    (h : ∀ h' T, Ch ((env :: outer).filterMap (·.frame)) ch s.heap h' → s.heap.get? T = none → s.heap.objs.size ≤ T → XAt h' e C dx (.ref T) → TbAt h' T (rawInt L) → Q () { s with heap := h' }) :
    wpAny M A (do let a ← frameOf env; let pl ← entryPlaceOf L hadNext; let b ← EntryCells.newEntry head a .none (rawInt L) .none pl; setField (.ref e) 1 b) Q E s := by
  obtain ⟨oe, vs, he, hcl, hdi, hd, h1⟩ := hx
  have hsz : 1 < vs.size := (Array.getElem?_eq_some_iff.mp h1).1
  have hene : e ∉ (env :: outer).filterMap (·.frame) := fun hm => by
    obtain ⟨_, o, ho, hnf⟩ := hl.mem hm
    rw [he] at ho
    cases ho
    exact hnf vs hd
  refine wpAny_bind (wpAny_frameOf_fun hfr hl hf fun h1' hs1 => ?_)
  refine wpAny_bind (wpAny_entryPlaceOf fun pl hpl => ?_)
  unfold EntryCells.newEntry newFields
  refine wpAny_bind (wpAny_newObj_type ?_ (hpl.sizeOk5 _ _ _ _ _))
  have he1 : h1'.get? e = some oe := (hs1.2.1 e hene).trans he
  have he2 : (h1'.push { cls := .type "traceback", dict := none, data := .fields ([head, .ref L, .none, rawInt L, .none] ++ (if pl.isEmpty then List.replicate 6 Value.none else pl)).toArray }).get? e = some oe := Heap.get?_push_of_some _ he1
  refine wpAny_setField he2 hd hsz ?_
  have hTe : h1'.objs.size ≠ e := Nat.ne_of_gt (Heap.lt_size he1)
  have hd3 := Obj.data_mapFields hd (·.setIfInBounds 1 (Value.ref h1'.objs.size))
  have he3 := Heap.get?_update_self (Obj.mapFields (·.setIfInBounds 1 (Value.ref h1'.objs.size))) he2 (Obj.isFreed_of_fields hd3)
  have hT3 := (Heap.get?_update_other (h1'.push { cls := .type "traceback", dict := none, data := .fields ([head, .ref L, .none, rawInt L, .none] ++ (if pl.isEmpty then List.replicate 6 Value.none else pl)).toArray }) (Obj.mapFields (·.setIfInBounds 1 (Value.ref h1'.objs.size))) (Ne.symm hTe)).trans (Heap.get?_push_size h1' rfl)
  refine h _ h1'.objs.size ?_ (Heap.get?_none_of_le (by rw [hs1.1]; exact Nat.le_refl _)) (by rw [hs1.1]; exact Nat.le_refl _) ⟨_, _, he3, (Obj.cls_mapFields _ _).trans hcl, (dict_mapFields _ _).trans hdi, hd3, by simp [hsz]⟩
    ⟨_, _, hT3, rfl, by first | (simp; done) | (rcases hpl with rfl | ⟨_, _, _, _, _, _, _, rfl⟩ <;> simp)⟩
  have c1 : Ch ((env :: outer).filterMap (·.frame)) ch s.heap h1' := ⟨fun b o _ hb q => (hs1.2.1 b hb).trans q, fun b o _ q => hs1.2.2 b o q, fun b o q => let ⟨sl, z⟩ := hs1.2.2 b o q; ⟨_, z⟩⟩
  have c2 : Ch ((env :: outer).filterMap (·.frame)) ch h1' (h1'.push { cls := .type "traceback", dict := none, data := .fields ([head, .ref L, .none, rawInt L, .none] ++ (if pl.isEmpty then List.replicate 6 Value.none else pl)).toArray }) :=
    ⟨fun b o _ _ q => Heap.get?_push_of_some _ q, fun b o _ q => ⟨o.slots, Heap.get?_push_of_some _ q⟩, fun b o q => ⟨o, Heap.get?_push_of_some _ q⟩⟩
  exact (c1.trans c2).trans (Ch.update hc ⟨_, he3⟩)
inductive Fly (h : Heap) (L : Addr) (a : Addr) : Value → List Addr → Prop
  | new : Fly h L a .none []
  | from_ {T : Addr} : T ≠ a → TbAt h T .none → Fly h L a (.ref T) [T]
  | here {T : Addr} : T ≠ a → TbAt h T (rawInt L) → Fly h L a (.ref T) [T]
theorem noteX {base : Heap} {env : Env} {outer : List Env} {L e C dx : Addr} {tb : Value} {ts : List Addr} {Q : Unit → Shared → Prop} (hfr : A.frames = some (env :: outer)) (hl : s.heap.FunFrames base (env :: outer)) (hf : env.frame = some L)
    (hx : XAt s.heap e C dx tb) (hfl : Fly s.heap L e tb ts)
    (h : ∀ h' T, Ch ((env :: outer).filterMap (·.frame)) (e :: ts) s.heap h' → (T ∈ ts ∨ s.heap.objs.size ≤ T) → T ≠ e → XAt h' e C dx (.ref T) → TbAt h' T (rawInt L) → Q () { s with heap := h' }) : wpAny M A (noteFrame (.ref e) env) Q E s := by
  obtain ⟨oe, vs, he, hcl, hdi, hd, h1⟩ := id hx
  have hne : ∀ T, s.heap.objs.size ≤ T → T ≠ e := fun T hT z => by subst z; exact absurd (Nat.lt_of_lt_of_le (Heap.lt_size he) hT) (Nat.lt_irrefl _)
  unfold noteFrame
  simp only [hf]
  refine wpAny_bind (wpAny_field he hd h1 ?_)
  cases hfl with
  | new =>
    rw [if_neg (by decide)]
    exact entryX hfr hl hf hx (by simp) fun h' T c1 c2 c3 c4 c5 => h h' T c1 (.inr c3) (hne T c3) c4 c5
  | @from_ T hT ht =>
    rw [if_pos (show (Value.ref T != Value.none) = true from by simp)]
    obtain ⟨oT, ts, g1, g2, g3⟩ := id ht
    refine wpAny_bind (wpAny_field g1 g2 g3 ?_)
    rw [if_neg (show ¬ ((Value.none == rawInt L) = true) from by simp [rawInt])]
    refine wpAny_bind (setField3 (ch := [e, T]) (fs := (env :: outer).filterMap (·.frame)) ht (by simp) fun hh c1 c2 c3 c4 => ?_)
    have hl1 : hh.FunFrames base (env :: outer) := hl.of_keeps fun b o hb hnf => ⟨o, by
      rw [c3 b (fun z => by subst z; rw [g1] at hb; cases hb; exact hnf ts g2)]; exact hb, rfl⟩
    refine entryX (s := { s with heap := hh }) hfr hl1 hf ⟨oe, vs, (c3 e (Ne.symm hT)).trans he, hcl, hdi, hd, h1⟩ (by simp : e ∈ [e, T]) fun h' T' d1 d2 d3 d4 d5 => ?_
    have hsz : s.heap.objs.size ≤ T' := by rw [← c4]; exact d3
    exact h h' T' (c1.trans d1) (.inr hsz) (hne T' hsz) d4 d5
  | @here T hT ht =>
    rw [if_pos (show (Value.ref T != Value.none) = true from by simp)]
    obtain ⟨oT, ts, g1, g2, g3⟩ := id ht
    refine wpAny_bind (wpAny_field g1 g2 g3 ?_)
    rw [if_pos (show (rawInt L == rawInt L) = true from by first | (simp; done) | exact beq_self_eq_true _)]
    exact wpAny_pure (h _ T ⟨fun _ _ _ _ q => q, fun _ o _ q => ⟨o.slots, q⟩, fun _ o q => ⟨o, q⟩⟩ (.inl (by simp)) hT hx ht)
theorem XAt.other {h h' : Heap} {e C dx T : Addr} {tb : Value} (x : XAt h e C dx tb) (hT : T ≠ e) (k : ∀ b, b ≠ T → h'.get? b = h.get? b) : XAt h' e C dx tb :=
  let ⟨oe, vs, he, r⟩ := x; ⟨oe, vs, (k e (Ne.symm hT)).trans he, r⟩
theorem flightX {fr : Option Addr} {e C dx T : Addr} {fl : Value} {fs : List Addr} {Q : Unit → Shared → Prop} (hx : XAt s.heap e C dx (.ref T)) (ht : TbAt s.heap T fl) (hT : T ≠ e)
    (h : ∀ h', Ch fs [e, T] s.heap h' → XAt h' e C dx (.ref T) → TbAt h' T (fr.elim .none fun f => rawInt f) → Q () { s with heap := h' }) : wpAny M A (setFlight (.ref e) fr) Q E s := by
  obtain ⟨oe, vs, he, hcl, hdi, hd, h1⟩ := id hx
  unfold setFlight
  refine wpAny_bind (wpAny_field he hd h1 ?_)
  rw [if_pos (show (Value.ref T != Value.none) = true from by simp)]
  exact setField3 ht (by simp) fun h' c1 c2 c3 _ => h h' c1 (hx.other hT c3) c2
theorem leaveX {base : Heap} {env : Env} {outer : List Env} {L e C dx : Addr} {tb : Value} {ts : List Addr} {Q : Unit → Shared → Prop} (hfr : A.frames = some (env :: outer)) (hl : s.heap.FunFrames base (env :: outer)) (hf : env.frame = some L)
    (hx : XAt s.heap e C dx tb) (hfl : Fly s.heap L e tb ts)
    (h : ∀ h' T, Ch ((env :: outer).filterMap (·.frame)) (e :: T :: ts) s.heap h' → (T ∈ ts ∨ s.heap.objs.size ≤ T) → T ≠ e → XAt h' e C dx (.ref T) → TbAt h' T .none → Q () { s with heap := h' }) : wpAny M A (leaving env (.ref e)) Q E s := by
  unfold leaving
  refine wpAny_bind (noteX hfr hl hf hx hfl fun h1 T c1 c2 c3 c4 c5 => ?_)
  refine flightX (s := { s with heap := h1 }) (fr := none) (fs := (env :: outer).filterMap (·.frame)) c4 c5 c3 fun h2 d1 d2 d3 => h h2 T ((c1.mono fun b hb => ?_).trans (d1.mono fun b hb => ?_)) c2 c3 d2 d3
  · rcases List.mem_cons.mp hb with z | z
    · rw [z]; simp
    · simp [z]
  · simp at hb; rcases hb with z | z <;> simp [z]
end
section
variable {M : Model} {A : Around} {E : Value → Shared → Prop} {env : Env}
variable {nm q : Str} {C N : Addr} {bs bm : List Value} {hdct : Bool} {sn : List Str} {sub : List Value} {ab : Bool} {col : Option Bool} {dd : Option Addr} {k0 k1 k2 k3 k5 : Option Value} {newId : String}
theorem raiseX {s : Shared} {x : Sem Value} {Q : Flow → Shared → Prop} (hbase : bm.contains (.type "BaseException") = true) (hh : A.handled = none)
    (h : wpAny M A x (fun v s1 => ∃ e dx, v = .ref e ∧ s1.heap.get? C = some (excClassObj nm q C N bs bm hdct sn sub ab col dd k0 k1 k2 k3 k5 newId) ∧ XAt s1.heap e C dx .none ∧ E (.ref e) s1) E s) :
    wpAny M A (raiseStmt env (some x) none) Q E s := by
  have hcB : (Value.ref C :: bm).contains (.type "BaseException") = true := by rw [List.contains_cons, hbase, Bool.or_true]
  unfold raiseStmt
  refine wpAny_bind (wpAny_mono h (fun v s1 h1 => ?_) fun _ _ x => x)
  obtain ⟨e, dx, rfl, hC, ⟨oe, vs, he, hcl, hdi, hd, hv⟩, hE⟩ := h1
  obtain ⟨hp, g, d, tk, os⟩ := s1
  repeat (first | (with_reducible refine wpAny_loadPart_at he ?_; rw [hcl]) | with_reducible refine wpAny_loadPart_at hC ?_ | (with_reducible refine wpAny_isSubtype_exc hC ?_; rw [hcB]) | with_reducible refine wpAny_field he hd hv ?_ | wp_step)
  exact wpAny_raiseNew_none hh hE
end
end Xc
end
section
set_option Elab.async false
set_option linter.all false
set_option maxRecDepth 100000
set_option maxHeartbeats 1000000
namespace Xc
open PySem PySem.Spec PyProof.Rows Builtin Builtin.ObjectAttr
section
variable {prog : Program} {w : World} {A : Around} {E : Value → Shared → Prop} {h : Heap} {g : Array GenState} {d : Drawn} {t : Nat} {os : OsState}
variable {nm q : Str} {C N x : Addr} {bs bm : List Value} {sn : List Str} {sub : List Value} {ab : Bool} {col : Option Bool} {dd : Option Addr} {k0 k1 k2 k3 k5 : Option Value} {B newId sa owner : String} {mN mA : Str → Option Value} {name : Str} {v : Value} {o : Obj}
theorem storeNewE {tk : Tok} {Q : Fin → Shared → Prop} (SF : StoreFacts B bm sa owner) (hC : h.get? C = some (excClassObj nm q C N bs bm true sn sub ab col dd k0 k1 k2 k3 k5 newId)) (hn : h.Ns N mN) (hna : mN name = none)
    (hB : typeLookup (.type B) name = pure none) (hx : h.get? x = some o) (hc : o.cls = .ref C) (hnc : ∀ c, o.data ≠ .cls c) (hdn : o.dict = none)
    (hq : ∀ h' tk', h'.get? x = some { o with dict := some h.objs.size } → h'.Ns1 h.objs.size (fun y => if y = name then some v else none) → (∀ b ob, b ≠ x → h.get? b = some ob → h'.get? b = some ob) → Q (.done (.ret .none)) ⟨h', g, d, tk', os⟩) :
    wpAny (model prog w) A (Builtin.«object.__setattr__» ⟨[.ref x, .str name tk, v], []⟩) Q E ⟨h, g, d, t, os⟩ := by
  have hp := SF.passes (.ref x)
  unfold Builtin.«object.__setattr__»
  repeat (first | rw [refuse_eq] | (rw [refuseLoop_ref, hp]) | (with_reducible refine wpAny_loadPart_at hx ?_; rw [hc]) | with_reducible refine wpAny_mroOf_exc hC ?_ | (with_reducible refine wpAny_typeLookup_exc hC hn SF.mro hB ?_; rw [hna]) | wp_step)
  rw [hdn, if_neg (by simp [typeHasDict])]
  split
  · rename_i hcd
    cases hcd
  split
  · rename_i c hcd
    exact absurd hcd (hnc c)
  · have hx1 : (h.push { cls := .type "dict", data := .dict #[] }).get? x = some o := Heap.get?_push_of_some _ hx
    have hxs : x ≠ h.objs.size := Nat.ne_of_lt (Heap.lt_size hx)
    refine wpAny_bind (wpAny_alloc' ?_)
    refine wpAny_bind (wpAny_update' hx1 ?_)
    refine wpAny_pure ?_
    have hgd : ((h.push { cls := .type "dict", data := .dict #[] }).update x fun o => { cls := o.cls, dict := some h.objs.size, data := o.data, slots := o.slots }).get? h.objs.size = some { cls := .type "dict", data := .dict #[] } := (Heap.get?_update_ne _ _ _ _ hxs.symm).trans (Heap.get?_push_at rfl rfl)
    have hnd : ((h.push { cls := .type "dict", data := .dict #[] }).update x fun o => { cls := o.cls, dict := some h.objs.size, data := o.data, slots := o.slots }).Ns h.objs.size (fun _ => none) := ⟨_, #[], _, hgd, rfl, fun e he => absurd he (by simp), fun _ => rfl⟩
    show wpAny _ _ (storeInDict h.objs.size (.str name tk) name v) _ _ _
    unfold storeInDict newKeyGuard
    refine wpAny_bind (wpAny_pure (wpAny_bind (wpAny_nsSet1 (Heap.Ns1.of_empty hnd) fun h' hn' hs => ?_)))
    obtain ⟨oD, esD, epD, hoD, hdD, hcD⟩ := hn'.count (Within.cons name v Within.nil)
    refine wpAny_bind (wpAny_lookBehind hoD (by rw [hdD]; exact pastItsLine_dict (Nat.le_trans hcD (by rw [List.length_cons, List.length_nil, sizeLine_eq]; omega))) ?_)
    wp_walk
    refine hq h' _ ?_ ?_ fun b ob hbx hb => ?_
    · refine (hs.2 x hxs).trans (Heap.get?_update_self _ hx1 ?_)
      have hfr := (Heap.get?_some_iff.mp hx).2
      obtain ⟨oc, od, odt, osl⟩ := o
      cases odt <;> first | rfl | exact hfr
    · obtain ⟨o', es, ep, e1, e2, e3, eu, e4⟩ := hn'
      exact ⟨o', es, ep, e1, e2, e3, eu, fun y => e4 y⟩
    · exact (hs.2 b (Nat.ne_of_lt (Heap.lt_size hb))).trans ((Heap.get?_update_ne _ _ _ _ hbx).trans (Heap.get?_push_of_some _ hb))
theorem storeNew {Q : Unit → Shared → Prop} (SF : StoreFacts B bm sa owner) (hC : h.get? C = some (excClassObj nm q C N bs bm true sn sub ab col dd k0 k1 k2 k3 k5 newId)) (hn : h.Ns N mN) (hns : mN "__setattr__" = none) (hna : mN name = none)
    (hB : typeLookup (.type B) name = pure none) (hx : h.get? x = some o) (hc : o.cls = .ref C) (hnc : ∀ c, o.data ≠ .cls c) (hdn : o.dict = none)
    (hq : ∀ h' tk', h'.get? x = some { o with dict := some h.objs.size } → h'.Ns1 h.objs.size (fun y => if y = name then some v else none) → (∀ b ob, b ≠ x → h.get? b = some ob → h'.get? b = some ob) → Q () ⟨h', g, d, tk', os⟩) :
    wpAny (model prog w) A (setAttr (.ref x) name v) Q E ⟨h, g, d, t, os⟩ := by
  have f3 := SF.slot.bind (.ref x)
  unfold setAttr callSpecial? specialOf
  repeat (any_goals (first | assumption | (with_reducible refine wpAny_loadPart_at hx ?_; rw [hc]) | (with_reducible refine wpAny_typeLookup_exc hC hn SF.mro SF.slot.lookup ?_; rw [hns]) | wp_step))
  refine codeAny_call_builtin SF.slot.plain SF.entry (wpAny_check_sa SF hC hx hc (storeNewE SF hC hn hna hB hx hc hnc hdn ?_))
  intro h' tk' a b c
  exact wpAny_pure (wpAny_pure (hq h' tk' a b c))
end
end Xc
namespace L2
open PySem PySem.Spec PyProof.Rows Xc
structure XCls (K : PySem.W.Frag) (C fI : Addr) : Prop where
  ex : ∃ (nm q : Str) (N : Addr) (bs : List Value) (sn : List Str) (sub : List Value) (ab : Bool) (col : Option Bool) (dd : Option Addr) (k0 k1 k2 k3 k5 : Option Value),
    K.lookup C = some (excClassObj nm q C N bs bmE true sn sub ab col dd k0 k1 k2 k3 k5 "Exception.__new__") ∧ PySem.W.nsOkIn K N = true ∧ PySem.W.nsIn K N "__init__" = some (some (.ref fI)) ∧
    PySem.W.nsIn K N "__setattr__" = some none ∧ PySem.W.nsIn K N "kind" = some none ∧ PySem.W.nsIn K N "place" = some none ∧ PySem.W.nsIn K N "__getattribute__" = some none ∧ PySem.W.nsIn K N "__getattr__" = some none
theorem ns_some_of {K : PySem.W.Frag} {h : Heap} {N : Addr} {mg : Str → Option Value} {n : Str} {v : Value} (X : K.In h) (G : h.Ns N mg) (e : PySem.W.nsIn K N n = some (some v)) : mg n = some v := by
  obtain ⟨ob, es, ep, hob, hdat, _, hfind⟩ := G
  unfold PySem.W.nsIn at e
  split at e
  · rename_i q
    have z := X _ _ q
    rw [hob] at z
    cases z
    cases hdat
    split at e
    · rename_i en he
      cases e
      rw [← hfind]
      unfold nsFind findBy
      rw [← Array.find?_toList, he]
      rfl
    · split at e <;> cases e
  · cases e
def ff (k p : Int) : List (Str × V) := [("kind", .int k), ("place", .int p)]
theorem tl_kind : typeLookup (.type "Exception") "kind" = pure none := by rw [typeLookup_type, builtinLookup_eq_fast]; kernel_rfl
theorem tl_place : typeLookup (.type "Exception") "place" = pure none := by rw [typeLookup_type, builtinLookup_eq_fast]; kernel_rfl
structure XMade (h h' : Heap) (e C dx : Addr) (k p : Value) : Prop where
  keep : ∀ b o, b ≠ e → h.get? b = some o → h'.get? b = some o
  at_ : XAt h' e C dx .none
  new : h.objs.size ≤ dx
  ns : ∃ mA, h'.Ns1 dx mA ∧ mA "kind" = some k ∧ mA "place" = some p ∧ ∀ f : Str, f ≠ "kind" → f ≠ "place" → mA f = none
def bodyX (p1 p2 p3 p4 p5 p6 p7 p8 : Pos) : List Stmt := [.Assign [.Attribute (.Name "self" p1) "kind" p2] (.Name "kind" p3) p4, .Assign [.Attribute (.Name "self" p5) "place" p6] (.Name "place" p7) p8]
section
variable {P : Program} {w : World} {K : PySem.W.Frag} {A : Around} {R : Result → Shared → Prop}
theorem x_init {C fI e : Addr} {fd : FuncData} {st : Stmt} {s : Shared} {oe : Obj} {vs : Array Value} {kv pv : Value} {p1 p2 p3 p4 p5 p6 p7 p8 : Pos} (KX : K.In s.heap) (lim : s.heap.NoLimit) (T : XCls K C fI) (F : Fun K "__init__" "Fault.__init__" st fI fd) (hbody : defBody st = bodyX p1 p2 p3 p4 p5 p6 p7 p8)
    (S : FnScope ["self", "kind", "place"] ["self", "kind", "place"] (defScope st)) (hloc : ∀ x ∈ (["self", "kind", "place"] : List Str), (defScope st).names.lookup x = some .local) (hb : Binds K fd ["self", "kind", "place"] []) (hdepth : A.depth < recursionLimit)
    (he : s.heap.get? e = some oe) (hcl : oe.cls = .ref C) (hdi : oe.dict = none) (hdt : oe.data = .fields vs) (hv : vs[1]? = some .none) (heC : e ≠ C) (heN : ∀ o, K.lookup e = some o → False)
    (h : ∀ h' tk dx, XMade s.heap h' e C dx kv pv → R (.ok (.ret .none)) { s with heap := h', toks := tk }) :
    codeAny (model P w) A (.call (.ref fI) ⟨[.ref e, kv, pv], []⟩) R s := by
  obtain ⟨oc, od, kV, doc, pm, an, cdv, ct, osl, rfl, lk, hcd⟩ := F.ex
  obtain ⟨nm, q, N, bs, sn, sub, ab, col, dd, k0, k1, k2, k3, k5, hC, n1, n2, n3, n4, n5, n6, n7⟩ := T.ex
  have hkind : ∀ y ∈ (["self", "kind", "place"] : List Str).zip [.ref e, kv, pv], (defScope st).names.lookup y.1 = some .local ∨ ((defScope st).names.lookup y.1 = some .cell ∧ ((cellsFrom (s.heap.objs.size + 1) (defScope st).names []).lookup y.1).isSome = true) := fun ⟨n, v⟩ hy => .inl (hloc n (List.of_mem_zip hy).1)
  refine codeAny_call_function hdepth (KX _ _ lk) rfl S.co S.gen rfl (PySem.W.codeRec_of KX hcd) (hb s [.ref e, kv, pv] KX rfl _ _ _ _ ?_)
  refine wpAny_newFunctionEnv_cells S.kind hkind fun env he' s1 x => ?_
  subst he'
  refine ⟨lim.keeps x.toInCall.keep, codeAny_func ?_⟩
  obtain ⟨h1, tk, rfl, hk⟩ := x.done
  have hns := x.toInCall.ns
  have fr := x.toInCall.fresh
  show wpAny _ _ (execs (defBody st) _) _ _ _
  rw [hbody]
  obtain ⟨hh, g, d, t, os⟩ := s
  have hkS : (envOfC "Fault.__init__" (defScope st) hh.objs.size fI cdv).kindOf "self" = some .local := hloc _ (by simp)
  have hkK : (envOfC "Fault.__init__" (defScope st) hh.objs.size fI cdv).kindOf "kind" = some .local := hloc _ (by simp)
  have hkP : (envOfC "Fault.__init__" (defScope st) hh.objs.size fI cdv).kindOf "place" = some .local := hloc _ (by simp)
  have vS : bindL (envOfC "Fault.__init__" (defScope st) hh.objs.size fI cdv).kindOf ((["self", "kind", "place"] : List Str).zip [.ref e, kv, pv]) (fun _ => none) "self" = some (.ref e) := bindL_get (i := 0) S.nd rfl rfl hkS
  have vK : bindL (envOfC "Fault.__init__" (defScope st) hh.objs.size fI cdv).kindOf ((["self", "kind", "place"] : List Str).zip [.ref e, kv, pv]) (fun _ => none) "kind" = some kv := bindL_get (i := 1) S.nd rfl rfl hkK
  have vP : bindL (envOfC "Fault.__init__" (defScope st) hh.objs.size fI cdv).kindOf ((["self", "kind", "place"] : List Str).zip [.ref e, kv, pv]) (fun _ => none) "place" = some pv := bindL_get (i := 2) S.nd rfl rfl hkP
  have he1 := hk _ _ he
  have K1 : K.In h1 := KX.keeps hk
  have hC1 := K1 _ _ hC
  have hN1 : h1.Ns N (h1.nsMap N) := .of_isNs (PySem.W.isNs_of_in K1 n1)
  have hnc : ∀ c, oe.data ≠ .cls c := fun c z => by rw [hdt] at z; cases z
  refine wpAny_execs_cons (plainObj_wpAny_Assign_Attribute (wpAny_Name (wpAny_loadName_local S.kind hkK hns vK (wpAny_Name (wpAny_loadName_local S.kind hkS hns vS ?_) (by decide))) (by decide)))
  refine storeNew PySem.F.store_Exception hC1 hN1 (PySem.W.ns_none_of K1 hN1 n3) (PySem.W.ns_none_of K1 hN1 n4) tl_kind he1 hcl hnc hdi fun h2 tk2 a2 b2 c2 => ?_
  have heL : hh.objs.size ≠ e := Nat.ne_of_gt (Heap.lt_size he)
  have K2 : K.In h2 := fun b o z => c2 b o (fun y => by subst y; exact heN o z) (K1 b o z)
  have hC2 := K2 _ _ hC
  have hN2 : h2.Ns N (h2.nsMap N) := .of_isNs (PySem.W.isNs_of_in K2 n1)
  have hns2 : h2.Ns hh.objs.size _ := let ⟨o, es, ep, z, r⟩ := hns; ⟨o, es, ep, c2 _ _ heL z, r⟩
  have ne2 : h1.objs.size ≠ e := Nat.ne_of_gt (Heap.lt_size he1)
  refine wpAny_execs_cons (plainObj_wpAny_Assign_Attribute (wpAny_Name (wpAny_loadName_local S.kind hkP hns2 vP (wpAny_Name (wpAny_loadName_local S.kind hkS hns2 vS ?_) (by decide))) (by decide)))
  refine store_attr (ns := ["kind"]) PySem.F.store_Exception hC2 hN2 (PySem.W.ns_none_of K2 hN2 n3) (PySem.W.ns_none_of K2 hN2 n5) tl_place heC ⟨_, a2, hcl, hnc, .inr ⟨h1.objs.size, rfl, ne2, b2⟩⟩ (fun h3 tk3 a3 b3 c3 => ?_) ?_ (by decide)
  · refine wpAny_execs_nil (h h3 tk3 h1.objs.size ⟨fun b o hb z => ?_, ?_, ?_, ?_⟩)
    · refine b3 b o hb (fun o' dx' y1 y2 => ?_) (c2 b o hb (hk b o z))
      rw [a2] at y1
      cases y1
      cases y2
      exact Nat.ne_of_lt (Heap.lt_size (hk b o z))
    · obtain ⟨o1, z1, z2, z3, z4, z5⟩ := c3 _ a2
      exact ⟨o1, vs, z1, z2.trans hcl, z5 _ rfl, z3.trans hdt, hv⟩
    · obtain ⟨_, _, _, z, _⟩ := hns
      exact Nat.le_of_lt (Heap.lt_size z)
    · obtain ⟨o1, z1, z2, z3, z4⟩ := a3
      obtain ⟨o1', y1, y2, y3, y4, y5⟩ := c3 _ a2
      rw [z1] at y1
      cases y1
      rcases z4 with ⟨z4, _⟩ | ⟨d', z4, _, z5⟩
      · rw [y5 _ rfl] at z4; cases z4
      · rw [y5 _ rfl] at z4
        cases z4
        refine ⟨_, z5, (if_neg (by decide +kernel)).trans (if_pos rfl), if_pos rfl, fun f f1 f2 => (if_neg f2).trans (if_neg f1)⟩
  · exact Within.cons "kind" kv Within.nil
end
end L2
end
section
set_option Elab.async false
set_option linter.all false
set_option maxRecDepth 100000
set_option maxHeartbeats 1000000
namespace L2
open PySem PySem.Spec PyProof.Rows Xc
def CXF (P : Program) (w : World) (C : Addr) : CXT := fun outer H s E e s' => ∃ a dx T H', e = .ref a ∧ s'.os = s.os ∧ AllBare s'.gens ∧ Un (frs outer) [] H H' s.heap s'.heap ∧ HOk P w H' s'.heap ∧
  XAt s'.heap a C dx (.ref T) ∧ TbAt s'.heap T .none ∧ s.heap.objs.size ≤ a ∧ s.heap.objs.size ≤ T ∧ T ≠ a ∧ H' a = none ∧ H' T = none ∧ E (.ref C) (some dx) H'
def EX (X : Cx) (C : Addr) (E : XK) (e : Value) (s' : Shared) : Prop := ∃ a dx tb ts σ H', e = .ref a ∧ Inv X [] σ H' s' ∧ XAt s'.heap a C dx tb ∧ Fly s'.heap X.env.locals a tb ts ∧
  (∀ b ∈ a :: ts, X.s_0.heap.objs.size ≤ b ∧ b ≠ X.env.locals ∧ H' b = none ∧ (∀ x c, X.env.cells.lookup x = some c → c ≠ b) ∧ ∀ p ∈ X.pn, p.1 ≠ b) ∧ E (.ref C) (some dx) H'
structure Top1 (X : Cx) : Prop where
  stk : X.stack = X.env :: X.outer
  fr : X.env.frame = some X.env.locals
  ex : X.ex = []
section
variable {X : Cx} {pins : List (Addr × Obj)} {σ : St} {H : Hp} {s : Shared} {C : Addr} {E : XK}
theorem Un.ch {fs ch : List Addr} {H : Hp} {h h' : Heap} (c : Ch fs ch h h') : Un fs ch H H h h' :=
  ⟨fun b o q _ hf hc => c.keep b o hc hf q, fun b o q _ _ hc => c.slot b o hc q, fun _ _ _ n _ => n, fun b o q _ => c.there b o q, fun _ _ q => q, fun _ _ _ q => q, fun _ ps q => ⟨#[], by rw [q]; simp⟩⟩
theorem HOk.ch {P : Program} {w : World} {fs ch : List Addr} {H : Hp} {h h' : Heap} (c : Ch fs ch h h') (ok : HOk P w H h) (hc : ∀ b ∈ ch, H b = none) (hf : ∀ b ∈ fs, H b = none) : HOk P w H h' := fun b u e => by
  have tr : ∀ z v, H z = some v → z ∉ ch ∧ z ∉ fs := fun z v q => ⟨fun m => (by rw [hc z m] at q; cases q), fun m => (by rw [hf z m] at q; cases q)⟩
  refine (ok b u e).stay (fun z v hz q => ?_) (fun _ q => q) fun _ _ q => q
  rcases hz with rfl | hz
  · exact c.keep z v (tr z u e).1 (tr z u e).2 q
  · exact c.keep z v (tr z _ hz).1 (tr z _ hz).2 q
theorem Inv.ch {h' : Heap} {ch : List Addr} (I : Inv X pins σ H s) (c : Ch (frs X.stack) ch s.heap h') (hch : ∀ b ∈ ch, X.s_0.heap.objs.size ≤ b ∧ b ≠ X.env.locals ∧ H b = none ∧ (∀ x c, X.env.cells.lookup x = some c → c ≠ b) ∧ ∀ p ∈ X.pn ++ pins, p.1 ≠ b) :
    Inv X pins σ H { s with heap := h' } :=
  I.call (g' := s.gens) (t' := s.toks) (d' := s.drawn) (ch := ch) (Un.ch c) (I.hok.ch c (fun b hb => (hch b hb).2.2.1) I.stkFree) I.bare fun b hb => ⟨.inr (hch b hb).1, (hch b hb).2.1, (hch b hb).2.2.2.1, (hch b hb).2.2.2.2⟩
theorem Inv.nopins (I : Inv X pins σ H s) : Inv X [] σ H s := I.pins_of fun _ h => nomatch h
theorem Inv.freshOk (I : Inv X pins σ H s) {b : Addr} (hb : s.heap.objs.size ≤ b) : X.s_0.heap.objs.size ≤ b ∧ b ≠ X.env.locals ∧ H b = none ∧ (∀ x c, X.env.cells.lookup x = some c → c ≠ b) ∧ ∀ p ∈ X.pn ++ pins, p.1 ≠ b := by
  refine ⟨Nat.le_trans I.sz hb, fun z => ?_, I.hok.fresh hb, fun x c e z => ?_, fun p hp z => ?_⟩
  · subst z; exact absurd (Nat.lt_of_lt_of_le I.lt hb) (Nat.lt_irrefl _)
  · obtain ⟨v, o, ho, _⟩ := I.cell x c e
    subst z; exact absurd (Nat.lt_of_lt_of_le (Heap.lt_size ho) hb) (Nat.lt_irrefl _)
  · have := (I.pin p hp).1
    subst z; exact absurd (Nat.lt_of_lt_of_le (Heap.lt_size this) hb) (Nat.lt_irrefl _)
theorem passF : Passes (CXF X.prog X.w C) (X.wish (EX X C E)) E := by
  intro pins σ H s e s' I h
  obtain ⟨a, dx, T, H', rfl, os, bare, un, hok, hx, ht, h1, h2, h3, h4, h5, hE⟩ := h
  have I0 : Inv X [] σ H s := (I.unwish).nopins
  have I1 : Inv X [] σ H' s' := I0.call' os un hok bare fun b z => absurd z (by simp)
  have fr : ∀ b, s.heap.objs.size ≤ b → H' b = none → X.s_0.heap.objs.size ≤ b ∧ b ≠ X.env.locals ∧ H' b = none ∧ (∀ x c, X.env.cells.lookup x = some c → c ≠ b) ∧ ∀ p ∈ X.pn, p.1 ≠ b := fun b hb hn => by
    obtain ⟨a1, a2, _, a4, a5⟩ := I0.freshOk hb
    exact ⟨a1, a2, hn, a4, fun p hp => a5 p (List.mem_append_left _ hp)⟩
  refine ⟨a, dx, .ref T, [T], σ, H', rfl, I1, hx, .from_ h3 ht, fun b hb => ?_, hE⟩
  rcases List.mem_cons.mp hb with z | z
  · subst z; exact fr _ h1 h4
  · simp at z; subst z; exact fr _ h2 h5
theorem ownF (t : Top1 X) : PassesOwn (model X.prog X.w) X.A X.env (EX X C E) := by
  intro e s' h
  obtain ⟨a, dx, tb, ts, σ, H', rfl, I, hx, hf, hfr, hE⟩ := h
  have st := I.stack
  rw [t.stk] at st
  have stA : X.A.frames = some (X.env :: X.outer) := by rw [I.ok.frames, t.stk]
  refine noteX stA st t.fr hx hf fun h1 T c1 c2 c3 c4 c5 => ?_
  have cc : Ch (frs X.stack) (a :: ts) s'.heap h1 := by rw [t.stk]; exact c1
  have fa : ∀ b ∈ a :: ts, X.s_0.heap.objs.size ≤ b ∧ b ≠ X.env.locals ∧ H' b = none ∧ (∀ x c, X.env.cells.lookup x = some c → c ≠ b) ∧ ∀ p ∈ X.pn ++ [], p.1 ≠ b := by rw [List.append_nil]; exact hfr
  have I1 : Inv X [] σ H' { s' with heap := h1 } := I.ch cc fa
  have fT : X.s_0.heap.objs.size ≤ T ∧ T ≠ X.env.locals ∧ H' T = none ∧ (∀ x c, X.env.cells.lookup x = some c → c ≠ T) ∧ ∀ p ∈ X.pn ++ [], p.1 ≠ T := by
    rcases c2 with z | z
    · exact fa T (List.mem_cons_of_mem _ z)
    · exact I.freshOk z
  show wpAny _ _ _ _ _ _
  obtain ⟨oe, vs, q1, q2, q3, q4, q5⟩ := id c4
  refine wpAny_bind (wpAny_field q1 q4 q5 ?_)
  rw [if_neg (show ¬ ((Value.ref T == Value.none) = true) from by simp)]
  refine flightX (s := { s' with heap := h1 }) (fs := frs X.stack) c4 c5 c3 fun h2 d1 d2 d3 => ?_
  have f2 : ∀ b ∈ [a, T], X.s_0.heap.objs.size ≤ b ∧ b ≠ X.env.locals ∧ H' b = none ∧ (∀ x c, X.env.cells.lookup x = some c → c ≠ b) ∧ ∀ p ∈ X.pn ++ [], p.1 ≠ b := fun b hb => by
    rcases List.mem_cons.mp hb with z | z
    · subst z; exact fa _ (by simp)
    · simp at z; subst z; exact fT
  have I2 : Inv X [] σ H' { s' with heap := h2 } := I1.ch d1 f2
  rw [t.fr] at d3
  refine ⟨a, dx, .ref T, [T], σ, H', rfl, I2, d2, .here c3 d3, fun b hb => ?_, hE⟩
  have := f2 b hb
  rw [List.append_nil] at this
  exact this
end
section
variable {P : Program} {w : World} {K : PySem.W.Frag} {mg : Str → Option Value} {base : Heap}
theorem top_cxOf {CX : CXT} {N : List Str} {qual : Str} {scope : Scope} {f : Addr} {cd : Value} {A : Around} {outer : List Env} {s : Shared} {H : Hp} {E : XK} : Top1 (cxOf CX P w K mg base N qual scope f cd A outer s H E) := ⟨rfl, rfl, rfl⟩
theorem leaveF {N : List Str} {qual : Str} {scope : Scope} {f C : Addr} {cd : Value} {A : Around} {outer : List Env} {s : Shared} {H : Hp} {E : XK} {e : Value} {s' : Shared} (h : EX (cxOf (CXF P w C) P w K mg base N qual scope f cd A outer s H E) C E e s') :
    (cxOf (CXF P w C) P w K mg base N qual scope f cd A outer s H E).xe e s' := by
  obtain ⟨a, dx, tb, ts, σ, H', rfl, I, hx, hf, hfr, hE⟩ := h
  have st := I.stack
  have stA := I.ok.frames
  refine leaveX (A := A.deeper (envOfC qual scope s.heap.objs.size f cd)) stA st rfl hx hf fun h1 T c1 c2 c3 c4 c5 => ?_
  have fT : s.heap.objs.size ≤ T ∧ T ≠ s.heap.objs.size ∧ H' T = none := by
    rcases c2 with z | z
    · have := hfr T (List.mem_cons_of_mem _ z); exact ⟨this.1, this.2.1, this.2.2.1⟩
    · have := I.freshOk z; exact ⟨this.1, this.2.1, this.2.2.1⟩
  have fa := hfr a (by simp)
  have fch : ∀ b ∈ a :: T :: ts, s.heap.objs.size ≤ b ∧ H' b = none := fun b hb => by
    rcases List.mem_cons.mp hb with z | hb
    · subst z; exact ⟨fa.1, fa.2.2.1⟩
    · rcases List.mem_cons.mp hb with z | hb
      · subst z; exact ⟨fT.1, fT.2.2⟩
      · have := hfr b (List.mem_cons_of_mem _ hb); exact ⟨this.1, this.2.2.1⟩
  have un := I.base
  have cold : ∀ b o, s.heap.get? b = some o → b ∉ a :: T :: ts := fun b o q m => absurd (Nat.lt_of_lt_of_le (Heap.lt_size q) (fch b m).1) (Nat.lt_irrefl _)
  have fold : ∀ b o, s.heap.get? b = some o → b ∉ frs outer → b ∉ frs (envOfC qual scope s.heap.objs.size f cd :: outer) := fun b o q n m => by
    have m' : b ∈ s.heap.objs.size :: frs outer := m
    rcases List.mem_cons.mp m' with z | z
    · subst z; exact absurd (Heap.lt_size q) (Nat.lt_irrefl _)
    · exact n z
  refine ⟨a, dx, T, H', rfl, I.os, I.bare, ⟨fun b o q n hb _ => ?_, fun b o q n hb hx' => ?_, un.free, fun b o q hx' => ?_, un.tups, un.frzs, un.tbls⟩, I.hok.ch c1 (fun b hb => (fch b hb).2) I.stkFree, c4, c5, fa.1, fT.1, c3, fa.2.2.1, fT.2.2, hE⟩
  · exact c1.keep b o (cold b o q) (fold b o q hb) (un.keep b o q n hb (by exact fun z => nomatch z))
  · obtain ⟨sl, z⟩ := un.slot b o q n hb hx'
    obtain ⟨sl', z'⟩ := c1.slot b _ (cold b o q) z
    exact ⟨sl', z'⟩
  · obtain ⟨o', z⟩ := un.there b o q hx'
    exact c1.there b o' z
theorem Fun.okF {x qual : Str} {st : Stmt} {f C : Addr} {fd : FuncData} {N ps : List Str} {k : Nat} {sp : Sp} (F : Fun K x qual st f fd) (S : FnScope N ps (defScope st)) (len : ∀ vs H Q E, sp vs H Q E → vs.length = ps.length)
    (hbody : ∀ (X0 : Cx) (cdv : Value) (A : Around) (outer : List Env) (s : Shared) (H : Hp) (vs : List V) (Q : VK) (E : XK), X0 = cxOf (CXF P w C) P w K mg base N qual (defScope st) f cdv A outer s H E → Room k (A.deeper (envOfC qual (defScope st) s.heap.objs.size f cdv)) → sp vs H Q E →
      ∃ t, PSs ((cxOf (CXF P w C) P w K mg base N qual (defScope st) f cdv A outer s H E).wish (EX X0 C E)) (defBody st) t ∧ t { nx := fun _ H' => Q .non H', rt := Q } (start N vs) H) : FnOk P w K mg base (CXF P w C) (k + 1) f fd ps sp := by
  obtain ⟨oc, od, kV, doc, pm, an, cdv, ct, osl, rfl, lk, hcd⟩ := F.ex
  refine fn_of lk hcd S len fun A outer s H vs Q E hr hsp => ?_
  obtain ⟨t, h, q⟩ := hbody _ cdv A outer s H vs Q E rfl hr hsp
  refine ⟨t, fun pins s1 σ H1 D I hw => ?_, q⟩
  exact wpAny_mono (h pins s1 σ H1 D (I.wish _) hw) (fun _ _ q => q.unwish) fun e s' z => leaveF z
end
end L2
end
section
set_option Elab.async false
set_option linter.all false
set_option maxRecDepth 100000
set_option maxHeartbeats 1000000
namespace L2
open PySem PySem.Spec PyProof.Rows Xc
structure Flt (K : PySem.W.Frag) (mg : Str → Option Value) (C : Addr) : Prop where
  ex : ∃ (fI : Addr) (fd : FuncData) (st : Stmt) (p1 p2 p3 p4 p5 p6 p7 p8 : Pos), XCls K C fI ∧ PySem.W.isFn K (.ref fI) = true ∧ Fun K "__init__" "Fault.__init__" st fI fd ∧ defBody st = bodyX p1 p2 p3 p4 p5 p6 p7 p8 ∧
    FnScope ["self", "kind", "place"] ["self", "kind", "place"] (defScope st) ∧ (∀ x ∈ (["self", "kind", "place"] : List Str), (defScope st).names.lookup x = some .local) ∧ Binds K fd ["self", "kind", "place"] []
  kp : PySem.W.keepIn K (.ref C) = true
  mgF : mg "Fault" = some (.ref C)
theorem isFn_cls {K : PySem.W.Frag} {f : Addr} {o : Obj} (h : PySem.W.isFn K (.ref f) = true) (e : K.lookup f = some o) : o.cls = .type "function" := by
  have h' : (K.lookup f).map (·.cls) = some (.type "function") := beq_iff_eq.mp h
  rw [e] at h'
  exact Option.some.inj h'
def sRaise (C : Addr) (E : XK) (t : TA) : TS := fun _ σ H => t σ H fun vs H1 => ∃ k q : Int, vs = [.int k, .int q] ∧ ∀ dx, H1 dx = none → E (.ref C) (some dx) (upd H1 dx (.xd (ff k q)))
theorem ff_rel {k q : Int} {kv pv : Value} (hk : RelV (.int k) kv) (hp : RelV (.int q) pv) {mA : Str → Option Value} (h1 : mA "kind" = some kv) (h2 : mA "place" = some pv) (h3 : ∀ f : Str, f ≠ "kind" → f ≠ "place" → mA f = none) :
    ∀ f, RelO ((ff k q).lookup f) (mA f) := by
  intro f
  have e0 : (ff k q).lookup f = if f = "kind" then some (.int k) else if f = "place" then some (.int q) else none := by
    unfold ff
    rw [List.lookup_cons, List.lookup_cons, List.lookup_nil]
    by_cases a : f = "kind"
    · subst a; simp
    · have : (f == ("kind" : Str)) = false := beq_eq_false_iff_ne.mpr a
      rw [this, if_neg a]
      by_cases b : f = "place"
      · subst b; simp
      · have : (f == ("place" : Str)) = false := beq_eq_false_iff_ne.mpr b
        rw [this, if_neg b]
  rw [e0]
  by_cases a : f = "kind"
  · subst a; rw [if_pos rfl, h1]; exact hk
  · rw [if_neg a]
    by_cases b : f = "place"
    · subst b; rw [if_pos rfl, h2]; exact hp
    · rw [if_neg b, h3 f a b]; trivial
section
variable {X X0 : Cx} {C : Addr} {E : XK} {e1 e2 : Expr} {t : TA} {p pos pos' : Pos} {k : Nat}
theorem passK (hX : X0 = X) : Passes (CXF X.prog X.w C) (X.wish (EX X0 C E)) E := by subst hX; exact passF
theorem ownK (hX : X0 = X) (t : Top1 X) : PassesOwn (model X.prog X.w) X.A X.env (EX X0 C E) := by subst hX; exact ownF t
theorem run_makeX {X : Cx} {pins : List (Addr × Obj)} {σ : St} {H : Hp} {s : Shared} {us : List Value} {a b : Int} {Q : Value → Shared → Prop} {E' : Value → Shared → Prop} (T : Flt X.K X.mg C) (hr : Room k X.A) (I : Inv X pins σ H s) (r : Vals [.int a, .int b] us)
    (h : ∀ e dx s', H e = none → s.heap.objs.size ≤ e → e ≠ dx → Inv X pins σ (upd H dx (.xd (ff a b))) s' → XAt s'.heap e C dx .none → H dx = none → Q (.ref e) s') :
    wpAny (model X.prog X.w) X.A (call (.ref C) us) Q E' s := by
  obtain ⟨kv, pv, rfl, rk, rp⟩ := vals2 r
  obtain ⟨fI, fd, st, p1, p2, p3, p4, p5, p6, p7, p8, hT, hfn, hF, hbd, hS, hloc, hb⟩ := T.ex
  obtain ⟨nm, q, N, bs, sn, sub, ab, col, dd, k0, k1, k2, k3, k5, hC, n1, n2, n3, n4, n5, n6, n7⟩ := id hT.ex
  obtain ⟨oc, od, kV, doc, pm, an, cdv, ct, osl, _, lk, _⟩ := id hF.ex
  have KX := I.kIn
  obtain ⟨hp, g, d, tk, os⟩ := s
  have hN : hp.Ns N (hp.nsMap N) := .of_isNs (PySem.W.isNs_of_in KX n1)
  refine wpAny_call (Xc.make PySem.F.excBase_Exception (KX _ _ hC) hN (ns_some_of KX hN n2) (KX _ _ lk) (isFn_cls hfn lk) ?_ (by show 2 ≤ sizeLine; decide))
  have hk : ∀ b o, hp.get? b = some o → (newX hp C [kv, pv]).get? b = some o := fun b o z => Heap.get?_push_of_some _ (Heap.get?_push_of_some _ z)
  have hsz : (newX hp C [kv, pv]).objs.size = hp.objs.size + 2 := by simp [newX, Heap.push]
  have hge : (newX hp C [kv, pv]).get? (hp.objs.size + 1) = some (objX C hp.objs.size) := by unfold newX objX; heap_get
  have heC : hp.objs.size + 1 ≠ C := Nat.ne_of_gt (Nat.lt_succ_of_lt (Heap.lt_size (KX _ _ hC)))
  refine x_init (s := ⟨newX hp C [kv, pv], g, d, tk, os⟩) (KX.keeps hk) (I.nolimit.keeps hk) hT hF hbd hS hloc hb ?_ hge rfl rfl rfl rfl heC (fun o z => absurd (Heap.lt_size (KX _ _ z)) (by show ¬ hp.objs.size + 1 < hp.objs.size; omega)) fun h' tk' dx hm => ⟨rfl, ?_⟩
  · rw [make_depth]
    have := hr.dp
    omega
  · have hdx : hp.objs.size + 2 ≤ dx := by have := hm.new; rw [hsz] at this; exact this
    have ed : hp.objs.size + 1 ≠ dx := by omega
    obtain ⟨mA, hns, m1, m2, m3⟩ := hm.ns
    have I' : Inv X pins σ (upd H dx (.xd (ff a b))) { (⟨hp, g, d, tk, os⟩ : Shared) with heap := h', toks := tk' } := I.laid (fun b u z => hm.keep b u (Nat.ne_of_lt (Nat.lt_succ_of_lt (Heap.lt_size z))) (hk b u z)) (by show hp.objs.size ≤ dx; omega) ⟨mA, hns, ff_rel rk rp m1 m2 m3⟩
    exact h _ dx _ (I.hok.fresh (by show hp.objs.size ≤ _; omega)) (by show hp.objs.size ≤ _; omega) ed I' hm.at_ (I.hok.fresh (by show hp.objs.size ≤ dx; omega))
theorem ps_raise (hX : X0 = X) (T : Flt X.K X.mg C) (hr : Room k X.A) (hc : X.calm = true) (hg : Gl X "Fault") (ha : PA (X.wish (EX X0 C E)) [e1, e2] t)
    (he : starEach [e1, e2] X.env = (false, eval e1 X.env) :: starEach [e2] X.env := by rfl) (hpl : (backTo pos (starEach [e2] X.env)).any (·.1) = false := by rfl) :
    PS (X.wish (EX X0 C E)) (.Raise (some (.Call (.Name "Fault" p) [e1, e2] [] pos)) none pos') (sRaise C E t) := by
  subst hX
  intro pins s σ H D I h
  rw [arm_exec_Raise]
  refine wpAny_bind (wpAny_standAt ?_)
  show wpAny _ _ (raiseStmt X0.env (some (do let v ← eval (.Call (.Name "Fault" p) [e1, e2] [] pos) X0.env; standAt pos'; pure v)) none) _ _ _
  obtain ⟨fI, fd, st, p1, p2, p3, p4, p5, p6, p7, p8, hT, _⟩ := id T.ex
  obtain ⟨nm, q, N, bs, sn, sub, ab, col, dd, k0, k1, k2, k3, k5, hC, _⟩ := id hT.ex
  refine raiseX (C := C) (nm := nm) (q := q) (N := N) (bs := bs) (bm := bmE) (hdct := true) (sn := sn) (sub := sub) (ab := ab) (col := col) (dd := dd) (k0 := k0) (k1 := k1) (k2 := k2) (k3 := k3) (k5 := k5) (newId := "Exception.__new__") (by decide) (I.ok.hd hc) ?_
  refine wpAny_bind ?_
  refine wpAny_Call_Name_kw (ld_glob I hg T.mgF ?_)
  refine PySem.W.callWith_K (h₀ := X0.base) I.ok.mod.kin T.kp (thn (ha pos pins s σ H _ I h) fun us s1 ⟨vs, H1, I1, r, q⟩ => ⟨I1.kIn, ?_⟩) he hpl
  obtain ⟨a, b, rfl, q⟩ := q
  refine run_makeX (X := X0.wish (EX X0 C E)) T hr I1 r fun e dx s' h1 h2 h3 I2 hx hd => ?_
  refine wpAny_bind (wpAny_standAt (wpAny_pure ?_))
  refine ⟨e, dx, rfl, I2.kIn _ _ hC, hx, ?_⟩
  have I3 : Inv X0 [] σ (upd H1 dx (.xd (ff a b))) s' := I2.unwish.nopins
  refine ⟨e, dx, .none, [], σ, _, rfl, I3, hx, .new, fun b hb => ?_, q dx hd⟩
  simp at hb
  subst hb
  obtain ⟨f1, f2, _, f4, f5⟩ := I1.unwish.nopins.freshOk h2
  exact ⟨f1, f2, by rw [upd_ne h3]; exact h1, f4, fun p hp => f5 p (List.mem_append_left _ hp)⟩
end
end L2
end
section
set_option Elab.async false
set_option linter.all false
set_option maxRecDepth 100000
set_option maxHeartbeats 1000000
namespace L2
open PySem PySem.Spec PyProof.Rows Xc
def PS0 (X : Cx) (st : Stmt) (t : TS) : Prop := ∀ (s : Shared) (σ : St) (H : Hp) (D : Ends), Inv X [] σ H s → t D σ H → wpAny (model X.prog X.w) X.A (exec st X.env) (SP X [] D) X.xe s
def PSs0 (X : Cx) (st : List Stmt) (t : TS) : Prop := ∀ (s : Shared) (σ : St) (H : Hp) (D : Ends), Inv X [] σ H s → t D σ H → wpAny (model X.prog X.w) X.A (execs st X.env) (SP X [] D) X.xe s
theorem PS.at0 {X : Cx} {st : Stmt} {t : TS} (h : PS X st t) : PS0 X st t := fun s σ H D I q => h [] s σ H D I q
theorem PSs.at0 {X : Cx} {st : List Stmt} {t : TS} (h : PSs X st t) : PSs0 X st t := fun s σ H D I q => h [] s σ H D I q
theorem pss0_cons {X : Cx} {st : Stmt} {rest : List Stmt} {t u : TS} (h1 : PS0 X st t) (h2 : PSs0 X rest u) : PSs0 X (st :: rest) (tSeq t u) := by
  intro s σ H D I h
  refine wpAny_execs_cons (thn (h1 s σ H { D with nx := u D } I h) fun f s1 q => ?_)
  cases f with
  | next =>
    obtain ⟨σ1, H1, I1, q⟩ := q
    exact h2 s1 σ1 H1 D I1 q
  | brk => exact q
  | cont => exact q
  | ret u => exact q
abbrev Cx.hnd (X : Cx) (a : Addr) (oe : Obj) : Cx := { X with A := X.A.mark (some (.ref a)), calm := false, pn := X.pn ++ [(a, oe)] }
section
variable {X : Cx} {σ : St} {H : Hp} {s : Shared} {a : Addr} {oe : Obj}
theorem Inv.hnd (I : Inv X [] σ H s) (h1 : s.heap.get? a = some oe) (h2 : H a = none) (h3 : a ≠ X.env.locals) (h4 : a ∉ X.fs) (h5 : ∀ v, oe.data ≠ .cell v) : Inv (X.hnd a oe) [] σ H s :=
  ⟨⟨I.ok.mod, I.ok.kind, I.ok.glob, I.ok.blt, I.ok.above, I.ok.inj, I.ok.has, I.ok.cab, (fun z => Bool.noConfusion z), I.ok.frames, I.ok.stk, I.ok.exf, I.ok.bs, I.ok.bsz, I.ok.noex, I.ok.exfs, I.ok.funs, I.ok.frf⟩,
    I.os, I.bare, I.base, I.loc, I.cell, I.free, I.freeC, fun p hp => by
      rw [List.append_nil] at hp
      rcases List.mem_append.mp hp with z | z
      · exact I.pin p (List.mem_append_left _ z)
      · simp at z; subst z; exact ⟨h1, h2, h3, h4, h5⟩, I.hok, I.len⟩
theorem Inv.unhnd (ok : X.Ok) (I : Inv (X.hnd a oe) [] σ H s) : Inv X [] σ H s :=
  ⟨ok, I.os, I.bare, I.base, I.loc, I.cell, I.free, I.freeC, fun p hp => I.pin p (by
    rw [List.append_nil] at hp ⊢
    exact List.mem_append_left _ hp), I.hok, I.len⟩
theorem Inv.forget {h' : Heap} {m' : Str → Option Value} {tk : Nat} (I : Inv X [] σ H s) (hn : h'.Ns X.env.locals m') (hs : Heap.SameBut X.env.locals s.heap h') : Inv X [] (List.replicate X.N.length none) H { s with heap := h', toks := tk } := by
  have old : ∀ b o, X.s_0.heap.get? b = some o → b ≠ X.env.locals := fun b o e => Nat.ne_of_lt (Nat.lt_of_lt_of_le (Heap.lt_size e) I.ok.above)
  refine ⟨I.ok, I.os, I.bare, ⟨fun b o e n hb hx => (hs.2 b (old b o e)).trans (I.base.keep b o e n hb hx), fun b o e n hb hx => ?_, I.base.free, fun b o e hx => ?_, I.base.tups, I.base.frzs, I.base.tbls⟩, ⟨m', hn, fun i x v _ e _ => ?_⟩, fun x c e => ?_, I.free, I.freeC, fun p hp => ?_, fun b ob e => ?_, by simp⟩
  · obtain ⟨sl, z⟩ := I.base.slot b o e n hb hx
    exact ⟨sl, (hs.2 b (old b o e)).trans z⟩
  · obtain ⟨o', z⟩ := I.base.there b o e hx
    exact ⟨o', (hs.2 b (old b o e)).trans z⟩
  · rw [List.getElem?_replicate] at e
    split at e <;> cases e
  · obtain ⟨v, z⟩ := I.cell x c e
    exact ⟨v, z.sameBut hs (I.cne x c e)⟩
  · obtain ⟨e, n, ne, nf, d⟩ := I.pin p hp
    exact ⟨(hs.2 p.1 ne).trans e, n, ne, nf, d⟩
  · refine (I.hok b ob e).stay (fun c w' hc q => (hs.2 c ?_).trans q) (fun _ q => q) fun _ _ q => q
    rintro rfl
    rcases hc with rfl | hc
    · rw [I.free] at e; cases e
    · rw [I.free] at hc; cases hc
def tXfld (a dx : Addr) (te : TE) (f : Str) : TE := fun σ H Q => te σ H fun x H1 => ∃ fs v, x = .ref a ∧ H1 dx = some (.xd fs) ∧ fs.lookup f = some v ∧ Q v H1
theorem pe_xfld {mg : Str → Option Value} {C dx : Addr} {e : Expr} {te : TE} {f : Str} {pos : Pos} {vs : Array Value} (T : Flt X.K mg C) (hc : oe.cls = .ref C) (hd : oe.dict = some dx) (hdt : oe.data = .fields vs) (hf : f = "kind" ∨ f = "place") (he : PE (X.hnd a oe) e te) (hb : attributeBase e f X.env (eval e X.env) = eval e X.env) :
    PE (X.hnd a oe) (.Attribute e f pos) (tXfld a dx te f) := by
  intro pins s σ H Q I h
  refine attr_of hb (thn (he pins s σ H _ I h) fun u s1 ⟨x, H1, I1, rx, fs, v, ex, hH, hl, q⟩ => ?_)
  subst ex
  obtain rfl : u = Value.ref a := rx
  obtain ⟨fI, fd, st, p1, p2, p3, p4, p5, p6, p7, p8, hT, _⟩ := id T.ex
  obtain ⟨nm, q', N, bs, sn, sub, ab, col, dd, k0, k1, k2, k3, k5, hC, n1, n2, n3, n4, n5, n6, n7⟩ := id hT.ex
  obtain ⟨ha, _⟩ : s1.heap.get? a = some oe ∧ H1 a = none := let ⟨x, y, _⟩ := I1.pin (a, oe) (by simp); ⟨x, y⟩
  obtain ⟨mA, hns, hrel⟩ := I1.hok dx _ hH
  have hne : dx ≠ a := fun z => by
    subst z
    obtain ⟨o, es, ep, e1, e2, _⟩ := hns
    rw [ha] at e1
    cases e1
    rw [hdt] at e2
    cases e2
  have KX := I1.kIn
  have hN : s1.heap.Ns N (s1.heap.nsMap N) := .of_isNs (PySem.W.isNs_of_in KX n1)
  have r := hrel f
  rw [hl] at r
  obtain ⟨w', hw, rw'⟩ := RelO.some_of r
  have hna : (s1.heap.nsMap N) f = none := by
    rcases hf with z | z
    · subst z; exact PySem.W.ns_none_of KX hN n4
    · subst z; exact PySem.W.ns_none_of KX hN n5
  have hB : typeLookup (.type "Exception") f = pure none := by
    rcases hf with z | z
    · subst z; exact tl_kind
    · subst z; exact tl_place
  obtain ⟨hp, g, d, tk, os⟩ := s1
  refine loadX (KX _ _ hC) hN (PySem.W.ns_none_of KX hN n6) (PySem.W.ns_none_of KX hN n7) hna hB ⟨oe, ha, hc, (fun c z => by rw [hdt] at z; cases z), .inr ⟨dx, hd, hne, hns⟩⟩ hw ?_ ⟨v, H1, I1.tok _, rw', q⟩
  cases v <;> first | (obtain ⟨t, rfl⟩ := rw'; rfl) | (obtain rfl := rw'; rfl)
def sTry (N : List Str) (C : Addr) (i : Nat) (tb : XK → TS) (th : Addr → Addr → TS) : TS := fun D σ H =>
  tb (fun c dxo H' => ∃ dx, dxo = some dx ∧ ∀ a, H' a = none → th a dx ⟨fun _ _ => False, D.rt, fun _ _ => False, fun _ _ => False⟩ ((List.replicate N.length none).set i (some (.ref a))) H') D σ H
theorem ps_try {C : Addr} {i : Nat} {n : Str} {body : List Stmt} {b0 : Stmt} {hb : List Stmt} {tb : XK → TS} {th : Addr → Addr → TS} {np pos hpos : Pos} (top : Top1 X) (T : Flt X.K X.mg C) (hg : Gl X "Fault") (hN : X.N.Nodup) (hi : X.N[i]? = some n) (hl : X.env.scope.names.lookup n = some .local)
    (hbody : ∀ E, PSs (X.wish (EX X C E)) body (tb E))
    (hh : ∀ (a dx : Addr) (oe : Obj) (vs : Array Value), oe.cls = .ref C → oe.dict = some dx → oe.data = .fields vs → PSs (Cx.nox (X.hnd a oe)) (b0 :: hb) (th a dx)) :
    PS0 X (.Try body [.ExceptHandler (some (.Name "Fault" np)) (some n) (b0 :: hb) hpos] [] [] pos) (sTry X.N C i tb th) := by
  intro s σ H D I h
  refine wpAny_Try_except ?_
  refine wpAny_mono (hbody _ [] s σ H D (I.wish _) h) (fun f s1 q => ?_) fun e s1 q => ?_
  · have q' := q.unwish
    cases f with
    | next => exact wpAny_execs_nil q'
    | brk => exact q'
    | cont => exact q'
    | ret u => exact q'
  · obtain ⟨a, dx, tbv, ts, σ1, H1, rfl, I1, hx, hf, hfr, dx', e1, hE⟩ := q
    cases e1
    have st := I1.stack
    rw [top.stk] at st
    have stA : X.A.frames = some (X.env :: X.outer) := by rw [I1.ok.frames, top.stk]
    refine noteX stA st top.fr hx hf fun h1 T1 c1 c2 c3 c4 c5 => ?_
    have cc : Ch (frs X.stack) (a :: ts) s1.heap h1 := by rw [top.stk]; exact c1
    have fa : ∀ b ∈ a :: ts, X.s_0.heap.objs.size ≤ b ∧ b ≠ X.env.locals ∧ H1 b = none ∧ (∀ x c, X.env.cells.lookup x = some c → c ≠ b) ∧ ∀ p ∈ X.pn ++ [], p.1 ≠ b := by rw [List.append_nil]; exact hfr
    have I2 : Inv X [] σ1 H1 { s1 with heap := h1 } := I1.ch cc fa
    have fT : X.s_0.heap.objs.size ≤ T1 ∧ T1 ≠ X.env.locals ∧ H1 T1 = none ∧ (∀ x c, X.env.cells.lookup x = some c → c ≠ T1) ∧ ∀ p ∈ X.pn ++ [], p.1 ≠ T1 := by
      rcases c2 with z | z
      · exact fa T1 (List.mem_cons_of_mem _ z)
      · exact I1.freshOk z
    have f2 : ∀ b ∈ [a, T1], X.s_0.heap.objs.size ≤ b ∧ b ≠ X.env.locals ∧ H1 b = none ∧ (∀ x c, X.env.cells.lookup x = some c → c ≠ b) ∧ ∀ p ∈ X.pn ++ [], p.1 ≠ b := fun b hb => by
      rcases List.mem_cons.mp hb with z | z
      · subst z; exact fa _ (by simp)
      · simp at z; subst z; exact fT
    refine flightX (s := { s1 with heap := h1 }) (fr := none) (fs := frs X.stack) c4 c5 c3 fun h2 d1 d2 d3 => ?_
    have I3 : Inv X [] σ1 H1 { s1 with heap := h2 } := I2.ch d1 f2
    have ha : X.s_0.heap.objs.size ≤ a ∧ a ≠ X.env.locals ∧ H1 a = none := ⟨(fa a (by simp)).1, (fa a (by simp)).2.1, (fa a (by simp)).2.2.1⟩
    obtain ⟨fI, fd, st', p1, p2, p3, p4, p5, p6, p7, p8, hT, _⟩ := id T.ex
    obtain ⟨nm, q', N, bs, sn, sub, ab, col, dd, k0, k1, k2, k3, k5, hC, _⟩ := id hT.ex
    refine wpAny_handleBy_cons (codeAny_handlers_test ?_) (by intro q; cases q)
    obtain ⟨oe2, vs2, g1, g2, g3, g4, g5⟩ := id d2
    have nfs : a ∉ X.fs := fun hm => by
      obtain ⟨_, o, ho, hnf⟩ := I3.funs.mem hm
      have z : h2.get? a = some o := ho
      rw [g1] at z
      cases z
      exact hnf vs2 g4
    have I4 : Inv (X.hnd a oe2) [] σ1 H1 { s1 with heap := h2 } := I3.hnd g1 ha.2.2 ha.2.1 nfs (fun v z => by rw [g4] at z; cases z)
    refine ld_glob (X := X.hnd a oe2) I4 hg T.mgF ?_
    refine wpAny_excMatches_sub_self (I3.kIn _ _ hC) g1 g2 (by decide) ?_
    refine codeAny_handlers_suite_as ?_
    refine flightX (s := { s1 with heap := h2 }) (fr := none) (fs := frs X.stack) d2 d3 c3 fun h3 e1 e2 e3 => ?_
    have I5 : Inv X [] σ1 H1 { s1 with heap := h3 } := I3.ch e1 f2
    obtain ⟨oe3, vs3, i1, i2, i3, i4, i5⟩ := id e2
    have nfs3 : a ∉ X.fs := nfs
    have I5' : Inv X [] (List.replicate X.N.length none) H1 { s1 with heap := h3 } := I5.weak (by rw [I5.len]; simp) fun j v z => by
      rw [List.getElem?_replicate] at z
      split at z <;> cases z
    have I6 : Inv (X.hnd a oe3) [] (List.replicate X.N.length none) H1 { s1 with heap := h3 } := I5'.hnd i1 ha.2.2 ha.2.1 nfs (fun v z => by rw [i4] at z; cases z)
    refine store_ok (X := X.hnd a oe3) (v := V.ref a) I6 hN hi (.inl hl) rfl (fun s4 I7 => ?_) (.inr hl)
    refine wpAny_mono (hh a dx oe3 vs3 i2 i3 i4 [] s4 _ H1 _ (I7.wish _) (hE a ha.2.2)) (fun f s5 q => ?_) fun _ _ z => z.elim
    have q5 := q.unwish
    cases f with
    | next => obtain ⟨_, _, _, z⟩ := q5; exact z.elim
    | brk => obtain ⟨_, _, _, z⟩ := q5; exact z.elim
    | cont => obtain ⟨_, _, _, z⟩ := q5; exact z.elim
    | ret u =>
      obtain ⟨v, σ5, H5, I8, rv, q6⟩ := q5
      have I9 : Inv X [] σ5 H5 s5 := I8.unhnd I.ok
      obtain ⟨m, hns, _⟩ := id I9.loc
      refine wpAny_nameGoes (show X.env.kindOf n = some .local from hl) hns (by rw [I9.ok.kind]; rfl) fun h' m' hn' hs' => ?_
      exact ⟨v, _, H5, I9.forget hn' hs', rv, q6⟩
end
theorem fn_of0 {CX : CXT} {P : Program} {w : World} {K : PySem.W.Frag} {mg : Str → Option Value} {base : Heap} {k : Nat} {f : Addr} {name qual : Str} {params : Arguments} {body : List Stmt} {scope : Scope} {dV kV doc pm cdv ct oc : Value} {an od : Option Addr}
    {osl : Array (Option Value)} {N ps : List Str} {sp : Sp} (lk : K.lookup f = some ⟨oc, od, .func (PySem.W.fnOf name qual params body scope dV kV doc pm an cdv ct), osl⟩) (hcd : PySem.W.codeIn K cdv qual = true) (S : FnScope N ps scope)
    (len : ∀ vs H Q E, sp vs H Q E → vs.length = ps.length)
    (hbody : ∀ (A : Around) (outer : List Env) (s : Shared) (H : Hp) (vs : List V) (Q : VK) (E : XK), Room k (A.deeper (envOfC qual scope s.heap.objs.size f cdv)) → sp vs H Q E →
      ∃ t, PSs0 (cxOf CX P w K mg base N qual scope f cdv A outer s H E) body t ∧ t { nx := fun _ H' => Q .non H', rt := Q } (start N vs) H) :
    FnOk P w K mg base CX (k + 1) f (PySem.W.fnOf name qual params body scope dV kV doc pm an cdv ct) ps sp := by
  refine ⟨len, fun A outer s H args us vs Q E hr e0 hb r hsp => ?_⟩
  have hl := len _ _ _ _ hsp
  have KX : K.In s.heap := e0.mod.kin.keeps fun b o e => (e0.bs b o e).1
  have lim : s.heap.NoLimit := e0.mod.nolimit.keeps fun b o e => (e0.bs b o e).1
  have hkind : ∀ y ∈ ps.zip us, scope.names.lookup y.1 = some .local ∨ (scope.names.lookup y.1 = some .cell ∧ ((cellsFrom (s.heap.objs.size + 1) scope.names []).lookup y.1).isSome = true) := fun ⟨n, v⟩ hy => by
    rcases S.par n (List.of_mem_zip hy).1 with q | q
    · exact .inl q
    · exact .inr ⟨q, PySem.W.cellsFrom_some _ _ _ (.inl q)⟩
  refine codeAny_call_function hr.depth (KX _ _ lk) rfl S.co S.gen rfl (PySem.W.codeRec_of KX hcd) (hb _ _ _ _ ?_)
  refine wpAny_newFunctionEnv_cells S.kind hkind fun env he s1 x => ?_
  subst he
  refine ⟨lim.keeps x.toInCall.keep, codeAny_func ?_⟩
  obtain ⟨t, ht, hq⟩ := hbody A outer s H vs Q E (hr.deeper _) hsp
  have I : Inv (cxOf CX P w K mg base N qual scope f cdv A outer s H E) [] (start N vs) H s1 := inv_start S hr.hd e0 hl r x
  refine wpAny_mono (ht s1 (start N vs) H _ I hq) (fun fl s' hs => ?_) fun e s' hs => hs
  have fin : ∀ {σ' : St} {H' : Hp} {v : V} {u : Value}, Inv (cxOf CX P w K mg base N qual scope f cdv A outer s H E) [] σ' H' s' → RelV v u → Q v H' → CE outer P w H s Q u s' :=
    fun {σ' H' v u} J rv q => ⟨v, H', J.os, J.bare, J.base, J.hok, rv, q⟩
  cases fl with
  | ret u =>
    obtain ⟨v, σ', H', J, rv, q⟩ := hs
    exact fin J rv q
  | next =>
    obtain ⟨σ', H', J, q⟩ := hs
    exact fin (v := V.non) (u := Value.none) J rfl q
  | brk =>
    obtain ⟨_, _, _, q⟩ := hs
    exact False.elim q
  | cont =>
    obtain ⟨_, _, _, q⟩ := hs
    exact False.elim q
section
variable {P : Program} {w : World} {K : PySem.W.Frag} {mg : Str → Option Value} {base : Heap}
theorem Fun.ok0 {x qual : Str} {st : Stmt} {f : Addr} {fd : FuncData} {N ps : List Str} {k : Nat} {sp : Sp} (F : Fun K x qual st f fd) (S : FnScope N ps (defScope st)) (len : ∀ vs H Q E, sp vs H Q E → vs.length = ps.length)
    (hbody : ∀ (cdv : Value) (A : Around) (outer : List Env) (s : Shared) (H : Hp) (vs : List V) (Q : VK) (E : XK), Room k (A.deeper (envOfC qual (defScope st) s.heap.objs.size f cdv)) → sp vs H Q E →
      ∃ t, PSs0 (cxOf CX0 P w K mg base N qual (defScope st) f cdv A outer s H E).nox (defBody st) t ∧ t { nx := fun _ H' => Q .non H', rt := Q } (start N vs) H) : FnOk P w K mg base CX0 (k + 1) f fd ps sp := by
  obtain ⟨oc, od, kV, doc, pm, an, cdv, ct, osl, rfl, lk, hcd⟩ := F.ex
  refine fn_of0 lk hcd S len fun A outer s H vs Q E hr hsp => ?_
  obtain ⟨t, h, q⟩ := hbody cdv A outer s H vs Q E hr hsp
  exact ⟨t, fun s1 σ H1 D I hw => wpAny_mono (h s1 σ H1 D (I.wish _) hw) (fun _ _ q => q.unwish) fun _ _ z => z.elim, q⟩
end
end L2
end
section
set_option Elab.async false
set_option linter.all false
set_option maxRecDepth 100000
set_option maxHeartbeats 1000000
namespace PySem.SeqAt
open AutoSeq1 (wpAny_loadPart')
open MeetsSeq MeetsSeq2 MeetsSeq3 SeqRoads2
theorem tuple_indexAt (l : Addr) (items : Array Value) (n : Nat) (dd : Option Addr) (sl : Array (Option Value)) (x : Value) (e : Value → Bool) (j : Nat) (hj : j < items.size)
    (hit : e items[j] = true) (hno : ∀ m (hm : m < items.size), m < j → e items[m] = false) :
    Meets (Builtin.«tuple.index» ⟨[.ref l, x], []⟩)
      (fun A R s => s.heap.get? l = some { cls := .type "tuple", dict := dd, data := .seq items n, slots := sl } ∧ (∀ y, y ∈ items → EqAt A.in1 s y x (e y)) ∧ R (.ok (.ret (.int j s.toks))) { s with toks := s.toks + 1 }) := by
  intro prog w A R s h
  obtain ⟨hp, g, d, tk, os⟩ := s; obtain ⟨hl, he, h⟩ := h
  unfold Builtin.«tuple.index»
  simp only [Std.Legacy.Range.forIn_eq_forIn_range', Std.Legacy.Range.size]
  wp_walk using wpAny_loadPart' hl
  have e0 : (min items.size items.size - 0 + 1 - 1) / 1 = items.size := by simp
  rw [e0]
  show wpAny _ _ (forIn (List.range' 0 items.size) ((none : Option Fin), ()) _) _ _ _
  refine wpAny_forIn_list _ (fun rest b s' => b = (none, ()) ∧ s' = ⟨hp, g, d, tk, os⟩ ∧ ∃ i, i ≤ j ∧ rest = List.range' i (items.size - i)) _ ?_ ?_ (List.range' 0 items.size) (none, ()) ⟨rfl, rfl, 0, Nat.zero_le _, by simp⟩
  · rintro i rest b s' ⟨rfl, rfl, i', hi, hr⟩
    have hlt : i' < items.size := by omega
    rw [show items.size - i' = (items.size - (i' + 1)) + 1 by omega, List.range'_succ] at hr
    injection hr with h1 h2
    subst h1
    have hi1 : items[i]? = some items[i] := by simp [hlt]
    simp only [hi1]
    refine wpAny_bind (he _ (Array.getElem_mem hlt) prog w _ _ ?_)
    by_cases c : i = j
    · subst c
      rw [hit]
      wp_walk
      exact h
    · rw [hno i hlt (by omega)]
      wp_walk
      exact ⟨rfl, rfl, i + 1, by omega, h2⟩
  · rintro b s' ⟨rfl, rfl, i, hi, hr⟩
    have := congrArg List.length hr
    simp at this
    omega
end PySem.SeqAt
namespace L2
open PySem PySem.Spec PyProof.Rows
section
variable {X : Cx}
def rIndexT (K : PySem.W.Frag) : V → List V → Hp → VK → Prop := fun x xs H Q => ∃ (a : Addr) (ys : List V) (y : V) (j : Nat) (z : V), x = V.ref a ∧ xs = [y] ∧ SqT K H a ys ∧ flatV y = true ∧ ys.all flatV = true ∧ ys[j]? = some z ∧ eqV z y = true ∧
  (∀ (m : Nat) (z' : V), m < j → ys[m]? = some z' → eqV z' y = false) ∧ Q (.int (j : Nat)) H
theorem mt_indexT : MtR X "tuple.index" (rIndexT X.K) := by
  intro pins s σ H x xs v us Q I rx rxs h
  obtain ⟨a, ys, y, j, z, rfl, rfl, hs, fy, fys, hz, hzj, hno, q⟩ := h
  cases rx
  cases rxs with
  | cons ry rt =>
    rename_i uy ut
    cases rt
    obtain ⟨its, rv, hT, hlen⟩ := I.tuple hs
    obtain ⟨⟨cls, dd, data, sl⟩, ho, hc, n, hd⟩ := hT
    have ho : s.heap.get? a = some { cls := .type "tuple", dict := dd, data := .seq its.toArray n, slots := sl } := by
      rw [ho]
      simp only at hc hd
      subst hc hd
      rfl
    obtain ⟨u, hu, ru⟩ := rv.get hz
    obtain ⟨hjl, hje⟩ := List.getElem?_eq_some_iff.mp hu
    have hvl := rv.length
    have hj : j < its.toArray.size := by simpa using hjl
    refine call_meets PySem.F.slot_tuple_index ⟨_, ho, rfl⟩ PySem.F.entry_tuple_index (PySem.F.args_tuple_index_2 _ _)
      (SeqAt.tuple_indexAt a its.toArray n dd sl uy (eqU y) j hj ?_ ?_) ⟨ho, fun u' hu' => mem_eqAt ry fy rv fys u' (by simpa using hu'), ?_⟩
    · have e1 : its.toArray[j] = u := by simpa using hje
      rw [e1, eqU_of ru (flat_at fys hz)]
      exact hzj
    · intro m hm hmj
      have hml : m < its.length := by simpa using hm
      have hmy : m < ys.length := by omega
      have hy' : ys[m]? = some ys[m] := List.getElem?_eq_getElem hmy
      obtain ⟨u2, hu2, ru2⟩ := rv.get hy'
      obtain ⟨_, hme⟩ := List.getElem?_eq_some_iff.mp hu2
      have e1 : its.toArray[m] = u2 := by simpa using hme
      rw [e1, eqU_of ru2 (flat_at fys hy')]
      exact hno m _ hmj hy'
    · exact ⟨.int (j : Nat), H, I.tok _, ⟨_, rfl⟩, q⟩
end
end L2
end
section
set_option Elab.async false
set_option linter.all false
namespace Bt
open Tilt
abbrev F := Except Fault
theorem bnd {a b : Type} {x : F a} {f g : a → F b} (h : ∀ y, x = .ok y → f y = g y) : (x >>= f) = (x >>= g) := by
  cases x with
  | error e => rfl
  | ok y => exact h y rfl
def isNm (c : UInt8) : Bool := isSmall c || (isDigit c || c == 95)
def sgn (c : UInt8) : Nat := if c = 32 then 32 else if isNm c = true then c.toNat else 63
def cod (w : Bytes) : List Nat := w.map sgn
theorem sgn_nm {c : UInt8} (h : isNm c = true) : sgn c = c.toNat := by
  unfold sgn
  by_cases e : c = 32
  · subst e; exact absurd h (by decide)
  · rw [if_neg e, if_pos h]
theorem nm_ne63 {c : UInt8} (h : isNm c = true) : c.toNat ≠ 63 := by
  intro e
  have : c = 63 := UInt8.toNat_inj.mp e
  subst this; exact absurd h (by decide)
theorem nm_ne32 {c : UInt8} (h : isNm c = true) : c.toNat ≠ 32 := by
  intro e
  have : c = 32 := UInt8.toNat_inj.mp e
  subst this; exact absurd h (by decide)
theorem sgn_inj {c d : UInt8} (h : isNm d = true) (e : sgn c = sgn d) : c = d := by
  rw [sgn_nm h] at e
  unfold sgn at e
  split at e
  · exact absurd e.symm (nm_ne32 h)
  · split at e
    · exact UInt8.toNat_inj.mp e
    · exact absurd e.symm (nm_ne63 h)
theorem cod_inj : ∀ {w n : Bytes}, n.all isNm = true → cod w = cod n → w = n
  | [], [], _, _ => rfl
  | [], _ :: _, _, e => by simp [cod] at e
  | _ :: _, [], _, e => by simp [cod] at e
  | c :: w, d :: n, h, e => by
    simp only [List.all_cons, Bool.and_eq_true] at h
    simp only [cod, List.map_cons, List.cons.injEq] at e
    rw [sgn_inj h.1 e.1, cod_inj h.2 e.2]
theorem name_nm {w : Bytes} (h : isName w = true) : w.all isNm = true := by
  unfold isName at h
  simp only [Bool.and_eq_true] at h
  exact h.2.2.1
theorem name_ne {w : Bytes} (h : isName w = true) : w ≠ [] := by
  rintro rfl; simp [isName] at h
def fixM (e : Nat) (s : Bytes) : List Word → F (List Word)
  | [] => .error ⟨3, e⟩
  | w :: r => if w.w = s then .ok r else .error ⟨3, w.at_⟩
theorem must_eq (e : Nat) (s : String) (l : List Word) : must e s l = fixM e (ascii s) l := by
  cases l <;> rfl
def nameM (e : Nat) : List Word → F (Word × List Word)
  | [] => .error ⟨3, e⟩
  | w :: r => if isName w.w = true then .ok (w, r) else .error ⟨4, w.at_⟩
def newM (e : Nat) (bar : Bytes) (had : List Bytes) : List Word → F (Bytes × List Word)
  | [] => .error ⟨3, e⟩
  | w :: r => if isName w.w = true then (if w.w = bar then .error ⟨4, w.at_⟩ else if w.w ∈ had then .error ⟨5, w.at_⟩ else .ok (w.w, r)) else .error ⟨4, w.at_⟩
def knwM (e : Nat) (names : List Bytes) : List Word → F (Word × List Word)
  | [] => .error ⟨3, e⟩
  | w :: r => if isName w.w = true then (if w.w ∈ names then .ok (w, r) else .error ⟨6, w.at_⟩) else .error ⟨4, w.at_⟩
def numM (e lo hi : Nat) : List Word → F ((Nat × Nat) × List Word)
  | [] => .error ⟨3, e⟩
  | w :: r => match numberOf w.w with
    | none => .error ⟨4, w.at_⟩
    | some n => if n < lo ∨ hi < n then .error ⟨4, w.at_⟩ else .ok ((n, w.at_), r)
theorem number_eq (e lo hi : Nat) (l : List Word) : number e lo hi l = numM e lo hi l := by
  cases l <;> rfl
def ifM (s : Bytes) : List Word → Bool × List Word
  | [] => (false, [])
  | w :: r => if w.w = s then (true, r) else (false, w :: r)
theorem newName_eq (e : Nat) (had : List Bytes) (l : List Word) : newName e had l = newM e [] had l := by
  cases l with
  | nil => rfl
  | cons w r =>
    simp only [newName, newM, next, bind, Except.bind, List.contains_iff_mem]
    by_cases h : isName w.w = true
    · have : w.w ≠ [] := name_ne h
      simp [h, this]; rfl
    · simp [h]
theorem newName_bar (e : Nat) (bar : Bytes) (hb : isName bar = true) (had : List Bytes) (l : List Word) : (notCalled bar l >>= fun _ => newName e had l) = newM e bar had l := by
  cases l with
  | nil => rfl
  | cons w r =>
    simp only [newName, newM, next, notCalled, holds, bind, Except.bind, List.contains_iff_mem]
    by_cases q : w.w = bar
    · simp [q, hb]
    · by_cases h : isName w.w = true
      · simp [q, h]; rfl
      · simp [q, h]
theorem newM_had {e : Nat} {bar : Bytes} {had : List Bytes} {l : List Word} {x : Bytes × List Word} (h : newM e bar had l = .ok x) : isName x.1 = true ∧ x.1 ∉ had ∧ x.1 ≠ bar := by
  cases l with
  | nil => simp [newM] at h
  | cons w r =>
    simp only [newM] at h
    split at h
    · split at h
      · cases h
      · split at h
        · cases h
        · cases h; rename_i a b c; exact ⟨a, c, b⟩
    · cases h
theorem knw_known {e : Nat} {names : List Bytes} {l : List Word} : known e names l = (knwM e names l >>= fun x => .ok (((names.findIdx fun n => n == x.1.w), x.1.at_), x.2)) := by
  cases l with
  | nil => rfl
  | cons w r =>
    simp only [known, knwM, next, bind, Except.bind]
    by_cases q : isName w.w = true
    · rw [if_pos q, if_neg (by rw [q]; decide)]
      by_cases c : w.w ∈ names
      · rw [if_pos c]
        have : names.findIdx? (fun n => n == w.w) = some (names.findIdx fun n => n == w.w) := by
          rw [List.findIdx?_eq_some_iff_findIdx_eq]
          refine ⟨?_, rfl⟩
          rw [List.findIdx_lt_length]
          exact ⟨w.w, c, by simp⟩
        rw [this]; rfl
      · rw [if_neg c]
        have : names.findIdx? (fun n => n == w.w) = none := by
          rw [List.findIdx?_eq_none_iff]
          intro x hx
          simp only [beq_eq_false_iff_ne]
          rintro rfl; exact c hx
        rw [this]
    · simp [q]
theorem knwM_in {e : Nat} {names : List Bytes} {l : List Word} {x : Word × List Word} (h : knwM e names l = .ok x) : x.1.w ∈ names ∧ isName x.1.w = true := by
  cases l with
  | nil => simp [knwM] at h
  | cons w r =>
    simp only [knwM] at h
    split at h
    · split at h
      · cases h; rename_i a b; exact ⟨b, a⟩
      · cases h
    · cases h
def numPy (w : Bytes) : Int := match numberOf w with
  | some n => if w.length ≤ 4 then (n : Int) else -1
  | none => -1
theorem fold_ge (w : Bytes) : ∀ a : Nat, a * 10 ^ w.length ≤ w.foldl (fun (n : Nat) (c : UInt8) => 10 * n + (c.toNat - 48)) a := by
  induction w with
  | nil => intro a; simp
  | cons c r ih =>
    intro a
    have h := ih (10 * a + (c.toNat - 48))
    rw [List.foldl_cons, List.length_cons, Nat.pow_succ]
    refine Nat.le_trans ?_ h
    rw [Nat.add_mul]
    have : a * (10 ^ r.length * 10) = 10 * a * 10 ^ r.length := by rw [Nat.mul_comm (10 ^ r.length) 10, ← Nat.mul_assoc, Nat.mul_comm a 10]
    omega
theorem big_num {w : Bytes} {n : Nat} (h : numberOf w = some n) (hl : 4 < w.length) : 10000 ≤ n := by
  unfold numberOf at h
  split at h
  · cases h
  · rename_i q
    cases h
    match w, hl with
    | c :: r, hl =>
      have hr : 4 ≤ r.length := by simp at hl; omega
      have hd : isDigit c = true := by
        have : (c :: r).all isDigit = true := by
          cases z : (c :: r).all isDigit with
          | true => rfl
          | false => exact absurd (.inr (.inl z)) q
        simp only [List.all_cons, Bool.and_eq_true] at this; exact this.1
      have h48 : c ≠ 48 := by
        rintro rfl
        exact q (.inr (.inr ⟨rfl, by intro z; cases z; simp at hl⟩))
      have hc : 49 ≤ c.toNat := by
        unfold isDigit at hd
        simp only [Bool.and_eq_true, decide_eq_true_eq] at hd
        have h1 : 48 ≤ c.toNat := by simpa using UInt8.le_iff_toNat_le.mp hd.1
        have h2 : c.toNat ≠ 48 := fun z => h48 (UInt8.toNat_inj.mp z)
        omega
      rw [List.foldl_cons]
      have := fold_ge r (10 * 0 + (c.toNat - 48))
      have p : 10 ^ 4 ≤ 10 ^ r.length := Nat.pow_le_pow_right (by decide) hr
      have m : 1 * 10 ^ 4 ≤ (10 * 0 + (c.toNat - 48)) * 10 ^ r.length := Nat.mul_le_mul (by omega) p
      omega
theorem num_fits {w : Bytes} {n : Nat} {lo hi : Nat} (hh : hi ≤ 9999) (h : numberOf w = some n) (hb : ¬ (n < lo ∨ hi < n)) : numPy w = (n : Int) := by
  unfold numPy
  rw [h]
  show (if w.length ≤ 4 then (n : Int) else -1) = n
  rw [if_pos]
  by_cases q : w.length ≤ 4
  · exact q
  · have := big_num h (by omega); omega
theorem num_bad {w : Bytes} {lo hi : Nat} (hh : hi ≤ 9999) : (numPy w < (lo : Int) ∨ (hi : Int) < numPy w) ↔ (match numberOf w with | none => True | some n => n < lo ∨ hi < n) := by
  unfold numPy
  cases h : numberOf w with
  | none => simp; omega
  | some n =>
    by_cases q : w.length ≤ 4
    · simp only [q, if_true]; omega
    · have := big_num h (by omega)
      simp only [q, if_false]; omega
end Bt
end
section
set_option Elab.async false
set_option linter.all false
namespace Bt
open Tilt
def kSw : Bytes := ascii "switch"
def kLa : Bytes := ascii "lamp"
def kCo : Bytes := ascii "coil"
def kDe : Bytes := ascii "device"
def kKi : Bytes := ascii "kick"
structure PT where
  T : Table
  drained : Nat
  held : List Bytes
  serving : List Bytes
  reached : List (Bytes × Nat)
def PT.new : PT := ⟨noTable, 0, [], [], []⟩
def PT.sz (p : PT) : Nat := p.T.switches.length + p.T.lamps.length + p.T.coils.length + p.T.devices.length + p.held.length + p.serving.length + p.reached.length
def swN (p : PT) : List Bytes := p.T.switches.map fun s => s.name
def laN (p : PT) : List Bytes := p.T.lamps.map fun s => s.name
def coN (p : PT) : List Bytes := p.T.coils.map fun c => c.name
def deN (p : PT) : List Bytes := p.T.devices.map fun c => c.name
def PT.past (p : PT) (s : Bytes) (n : Nat) : Bool := (p.reached.lookup s).any fun m => decide (n ≤ m)
def reachM (p : PT) (s : Bytes) (n a : Nat) : F PT := if p.past s n = true then .error ⟨5, a⟩ else .ok { p with reached := (s, n) :: p.reached }
def placeM (e : Nat) (p : PT) (s : Bytes) (last : Nat) (l : List Word) : F (Nat × PT × List Word) := do
  let l ← fixM e (ascii "at") l
  let x ← numM e 0 last l
  let q ← reachM p s x.1.1 x.1.2
  return (x.1.1, q, x.2)
def freeM (e : Nat) (p : PT) (l : List Word) : F (Bytes × PT × List Word) := do
  let x ← knwM e (coN p) l
  if x.1.w ∈ p.serving then .error ⟨7, x.1.at_⟩ else .ok (x.1.w, { p with serving := p.serving ++ [x.1.w] }, x.2)
def holdM (e : Nat) (p : PT) (l : List Word) : F (PT × List Word) := do
  let x ← knwM e (swN p) l
  if x.1.w ∈ p.held then .error ⟨7, x.1.at_⟩ else .ok ({ p with held := p.held ++ [x.1.w] }, x.2)
def headM (e : Nat) (p : PT) (l : List Word) : F (PT × List Word) := do
  let l ← fixM e (ascii "table") l
  let x ← nameM e l
  let l ← fixM e (ascii "balls") x.2
  let b ← numM e 1 8 l
  return ({ p with T := { p.T with name := x.1.w, balls := b.1.1 } }, b.2)
def switchM (e : Nat) (p : PT) (l : List Word) : F (PT × List Word) := do
  let n ← newM e DRAIN (swN p) l
  let x ← placeM e p kSw 63 n.2
  let l ← fixM e (ascii "close") x.2.2
  let c ← numM e 1 31 l
  let l ← fixM e (ascii "open") c.2
  let o ← numM e 1 31 l
  let t := ifM (ascii "turned") o.2
  return ({ x.2.1 with T := { p.T with switches := p.T.switches ++ [⟨x.1, c.1.1, o.1.1, t.1, n.1⟩] } }, t.2)
def lampM (e : Nat) (p : PT) (l : List Word) : F (PT × List Word) := do
  let n ← newM e LOOP (laN p) l
  let x ← placeM e p kLa 63 n.2
  return ({ x.2.1 with T := { p.T with lamps := p.T.lamps ++ [⟨x.1, n.1⟩] } }, x.2.2)
def hoptM (e : Nat) (t : Bool × List Word) : F (Nat × List Word) := if t.1 = true then (numM e 1 15 t.2 >>= fun h => .ok (h.1.1, h.2)) else .ok (0, t.2)
def coilM (e : Nat) (p : PT) (l : List Word) : F (PT × List Word) := do
  let n ← newM e [] (coN p) l
  let x ← placeM e p kCo 31 n.2
  let l ← fixM e (ascii "most") x.2.2
  let m ← numM e 1 1023 l
  let l ← fixM e (ascii "rest") m.2
  let r ← numM e 1 4095 l
  let h ← hoptM e (ifM (ascii "hold") r.2)
  return ({ x.2.1 with T := { p.T with coils := p.T.coils ++ [⟨x.1, m.1.1, r.1.1, h.1, n.1⟩] } }, h.2)
def moreM (e : Nat) : Nat → Nat → PT → List Word → F (Nat × PT × List Word)
  | 0, n, p, l => .ok (n, p, l)
  | k + 1, n, p, l => match l with
    | [] => .ok (n, p, [])
    | w :: r => if w.w = DRAIN then .ok (n, p, w :: r) else (holdM e p (w :: r)) >>= fun x => moreM e k (n + 1) x.1 x.2
def placeOf (p : PT) (n : Bytes) : Nat := ((p.T.switches.find? fun s => s.name == n).map fun s => s.place).getD 0
def coilOf (p : PT) (n : Bytes) : Coil := (p.T.coils.find? fun s => s.name == n).getD ⟨0, 0, 0, 0, []⟩
def deviceM (e : Nat) (p : PT) (l : List Word) : F (PT × List Word) := do
  let n ← newM e [] (deN p) l
  let l ← fixM e (ascii "by") n.2
  let c ← freeM e p l
  let l ← fixM e (ascii "holds") c.2.2
  let h ← holdM e c.2.1 l
  let m ← moreM e 7 1 h.1 h.2
  let t := ifM DRAIN m.2.2
  let q := m.2.1
  return ({ q with drained := (if t.1 = true then p.drained + m.1 else p.drained), T := { p.T with devices := p.T.devices ++ [⟨(coilOf p c.1).place, (q.held.drop p.held.length).map (placeOf p), t.1, n.1⟩] } }, t.2)
def tillM (e : Nat) (p : PT) (n : Bytes) (t : Bool × List Word) : F (Option Nat × List Word) :=
  if t.1 = true then (knwM e (swN p) t.2 >>= fun u => if u.1.w = n then .error ⟨7, u.1.at_⟩ else .ok (some (placeOf p u.1.w), u.2)) else .ok (none, t.2)
def kickM (e : Nat) (p : PT) (l : List Word) : F (PT × List Word) := do
  let s ← knwM e (swN p) l
  let p1 ← reachM p kKi (placeOf p s.1.w) s.1.at_
  let _ ← (if s.1.w ∈ p.held then .error ⟨7, s.1.at_⟩ else .ok () : F Unit)
  let c ← freeM e p1 s.2
  let l ← fixM e (ascii "for") c.2.2
  let t ← numM e 1 255 l
  let _ ← (if (coilOf p c.1).most < t.1.1 then .error ⟨7, t.1.2⟩ else .ok () : F Unit)
  let u ← tillM e p s.1.w (ifM (ascii "till") t.2)
  return ({ c.2.1 with T := { p.T with kicks := p.T.kicks ++ [⟨placeOf p s.1.w, (coilOf p c.1).place, t.1.1, u.1⟩] } }, u.2)
def sortOf (w : Bytes) : Nat := if w = kSw then 1 else if w = kLa then 2 else if w = kCo then 3 else if w = kDe then 4 else if w = kKi then 5 else 0
def sortM (e : Nat) (p : PT) (y : Nat) : List Word → F (Nat × List Word)
  | [] => .error ⟨3, e⟩
  | w :: r =>
    if sortOf w.w = 0 ∨ sortOf w.w < y ∨ (sortOf w.w = 4 ∧ p.T.devices.length = 8) ∨ (sortOf w.w = 5 ∧ p.T.kicks.length = 8) then .error ⟨3, w.at_⟩ else .ok (sortOf w.w, r)
def restM (e : Nat) (p : PT) (s : Nat) (l : List Word) : F (PT × List Word) :=
  if s = 1 then switchM e p l else if s = 2 then lampM e p l else if s = 3 then coilM e p l else if s = 4 then deviceM e p l else kickM e p l
def lineM (e : Nat) (p : PT) (y : Nat) (l : List Word) : F (Nat × PT) := do
  let s ← sortM e p y l
  let x ← restM e p s.1 s.2
  let _ ← closed x.2
  return (s.1, x.1)
def HeldR (T : Table) (had : List Nat) (held : List Bytes) : Prop := ∀ s ∈ T.switches, s.name ∈ held ↔ s.place ∈ T.held ++ had
structure Rep (p : PT) : Prop where
  drained : p.drained = p.T.room
  held : HeldR p.T [] p.held
  serving : ∀ c ∈ p.T.coils, c.name ∈ p.serving ↔ (p.T.devices.any (fun d => d.coil == c.place) = true ∨ p.T.kicks.any (fun d => d.coil == c.place) = true)
  rSw : ∀ n, p.past kSw n = !(p.T.switches.map fun s => s.place).all fun m => decide (m < n)
  rLa : ∀ n, p.past kLa n = !(p.T.lamps.map fun s => s.place).all fun m => decide (m < n)
  rCo : ∀ n, p.past kCo n = !(p.T.coils.map fun s => s.place).all fun m => decide (m < n)
  rKi : ∀ n, p.past kKi n = !p.T.kicks.all fun k => decide (k.first < n)
  swn : (p.T.switches.map fun s => s.name).Nodup
  swp : p.T.switches.Pairwise fun a b => a.place < b.place
  con : (p.T.coils.map fun s => s.name).Nodup
  cop : p.T.coils.Pairwise fun a b => a.place < b.place
  hin : ∀ n ∈ p.held, n ∈ swN p
  sin : ∀ n ∈ p.serving, n ∈ coN p
  b63 : ∀ s ∈ p.T.switches, s.place ≤ 63 ∧ 1 ≤ s.close ∧ 1 ≤ s.open_
  nms : ∀ s ∈ p.T.switches, isName s.name = true
  dl : p.T.devices.length ≤ 8
  kl : p.T.kicks.length ≤ 8
theorem asc {a b c : Type} (x : F a) (f : a → F b) (g : b → F c) : ((x >>= f) >>= g) = (x >>= fun y => f y >>= g) := by cases x <;> rfl
theorem placeM_eq {e hi : Nat} {p : PT} {s : Bytes} {l : List Word} {had : List Nat} (h : ∀ n, p.past s n = !had.all fun m => decide (m < n)) :
    (must e "at" l >>= fun m => place e hi had m) = (placeM e p s hi l >>= fun x => .ok (x.1, x.2.2)) := by
  rw [must_eq]
  unfold placeM
  simp only [asc]
  refine bnd fun m _ => ?_
  unfold place
  rw [number_eq]
  refine bnd fun x _ => ?_
  unfold reachM holds
  rw [h]
  cases (had.all fun m => decide (m < x.1.1)) <;> rfl
theorem numM_ok {e lo hi : Nat} {l : List Word} {x : (Nat × Nat) × List Word} (h : numM e lo hi l = .ok x) : lo ≤ x.1.1 ∧ x.1.1 ≤ hi := by
  cases l with
  | nil => cases h
  | cons w r =>
    simp only [numM] at h
    split at h
    · cases h
    · split at h
      · cases h
      · rename_i q; cases h; simp at q; exact q
theorem placeM_ok {e hi : Nat} {p : PT} {s : Bytes} {l : List Word} {x : Nat × PT × List Word} (h : placeM e p s hi l = .ok x) : p.past s x.1 = false ∧ x.2.1 = { p with reached := (s, x.1) :: p.reached } ∧ x.1 ≤ hi := by
  unfold placeM at h
  cases h1 : fixM e (ascii "at") l with
  | error f => rw [h1] at h; cases h
  | ok m =>
    rw [h1] at h
    simp only [bind, Except.bind] at h
    cases h2 : numM e 0 hi m with
    | error f => rw [h2] at h; cases h
    | ok y =>
      rw [h2] at h
      simp only at h
      unfold reachM at h
      cases h3 : p.past s y.1.1 with
      | true => rw [h3] at h; cases h
      | false =>
        rw [h3] at h
        cases h
        exact ⟨h3, rfl, (numM_ok h2).2⟩
theorem head_eq {e : Nat} (l : List Word) : (next e l >>= fun w => if w.1.w = ascii "table" then firstIn e w.2 else .error ⟨3, w.1.at_⟩) = (headM e PT.new l >>= fun x => closed x.2 >>= fun _ => .ok x.1.T) := by
  cases l with
  | nil => rfl
  | cons w r =>
    show (if w.w = ascii "table" then firstIn e r else .error ⟨3, w.at_⟩) = _
    by_cases c : w.w = ascii "table"
    · rw [if_pos c]
      have e1 : headM e PT.new (w :: r) = (nameM e r >>= fun x => fixM e (ascii "balls") x.2 >>= fun l => numM e 1 8 l >>= fun b => .ok ({ PT.new with T := { PT.new.T with name := x.1.w, balls := b.1.1 } }, b.2)) := by
        unfold headM; simp only [fixM, c, if_true]; rfl
      rw [e1]
      simp only [asc]
      unfold firstIn
      rw [newName_eq]
      have e2 : newM e [] [] r = (nameM e r >>= fun x => .ok (x.1.w, x.2)) := by
        cases r with
        | nil => rfl
        | cons v s =>
          simp only [newM, nameM]
          by_cases h : isName v.w = true
          · have : v.w ≠ [] := name_ne h
            simp [h, this]; rfl
          · simp [h]; rfl
      rw [e2]
      simp only [asc]
      refine bnd fun x _ => ?_
      show (must e "balls" x.2 >>= _) = _
      rw [must_eq]
      refine bnd fun m _ => ?_
      rw [number_eq]
      refine bnd fun b _ => ?_
      rfl
    · rw [if_neg c]
      unfold headM; simp only [fixM, c, if_false]; rfl
theorem switch_eq {e : Nat} {p : PT} (R : Rep p) (l : List Word) : switchIn e p.T l = (switchM e p l >>= fun x => closed x.2 >>= fun _ => .ok x.1.T) := by
  have e1 : switchIn e p.T l = ((notCalled DRAIN l >>= fun _ => newName e (p.T.switches.map fun s => s.name) l) >>= fun n => (must e "at" n.2 >>= fun m => place e 63 (p.T.switches.map fun s => s.place) m) >>= fun q =>
      must e "close" q.2 >>= fun l => number e 1 31 l >>= fun c => must e "open" c.2 >>= fun l => number e 1 31 l >>= fun o =>
      if o.2.isEmpty = true then .ok { p.T with switches := p.T.switches ++ [⟨q.1, c.1.1, o.1.1, false, n.1⟩] } else
      must e "turned" o.2 >>= fun l => closed l >>= fun _ => .ok { p.T with switches := p.T.switches ++ [⟨q.1, c.1.1, o.1.1, true, n.1⟩] }) := by
    simp only [asc]; rfl
  rw [e1, newName_bar e DRAIN (by decide)]
  unfold switchM
  simp only [asc]
  refine bnd fun n _ => ?_
  rw [← asc, placeM_eq R.rSw]
  simp only [asc]
  refine bnd fun x hx => ?_
  show (must e "close" x.2.2 >>= _) = _
  rw [must_eq]
  refine bnd fun m _ => ?_
  rw [number_eq]
  refine bnd fun c _ => ?_
  rw [must_eq]
  refine bnd fun m2 _ => ?_
  rw [number_eq]
  refine bnd fun o _ => ?_
  cases o.2 with
  | nil => rfl
  | cons w r =>
    rw [must_eq]
    by_cases h : w.w = ascii "turned"
    · simp [ifM, fixM, h, bind, Except.bind]; rfl
    · simp [ifM, fixM, h, bind, Except.bind, closed]; rfl
theorem lamp_eq {e : Nat} {p : PT} (R : Rep p) (l : List Word) : lampIn e p.T l = (lampM e p l >>= fun x => closed x.2 >>= fun _ => .ok x.1.T) := by
  have e1 : lampIn e p.T l = ((notCalled LOOP l >>= fun _ => newName e (p.T.lamps.map fun s => s.name) l) >>= fun n => (must e "at" n.2 >>= fun m => place e 63 (p.T.lamps.map fun s => s.place) m) >>= fun q =>
      closed q.2 >>= fun _ => .ok { p.T with lamps := p.T.lamps ++ [⟨q.1, n.1⟩] }) := by
    simp only [asc]; rfl
  rw [e1, newName_bar e LOOP (by decide)]
  unfold lampM
  simp only [asc]
  refine bnd fun n _ => ?_
  rw [← asc, placeM_eq R.rLa]
  simp only [asc]
  refine bnd fun x hx => ?_
  rfl
theorem coil_eq {e : Nat} {p : PT} (R : Rep p) (l : List Word) : coilIn e p.T l = (coilM e p l >>= fun x => closed x.2 >>= fun _ => .ok x.1.T) := by
  have e1 : coilIn e p.T l = (newName e (p.T.coils.map fun s => s.name) l >>= fun n => (must e "at" n.2 >>= fun m => place e 31 (p.T.coils.map fun s => s.place) m) >>= fun q =>
      must e "most" q.2 >>= fun l => number e 1 1023 l >>= fun m => must e "rest" m.2 >>= fun l => number e 1 4095 l >>= fun r =>
      if r.2.isEmpty = true then .ok { p.T with coils := p.T.coils ++ [⟨q.1, m.1.1, r.1.1, 0, n.1⟩] } else
      must e "hold" r.2 >>= fun l => number e 1 15 l >>= fun h => closed h.2 >>= fun _ => .ok { p.T with coils := p.T.coils ++ [⟨q.1, m.1.1, r.1.1, h.1.1, n.1⟩] }) := by
    simp only [asc]; rfl
  rw [e1, newName_eq]
  unfold coilM
  simp only [asc]
  refine bnd fun n _ => ?_
  rw [← asc, placeM_eq R.rCo]
  simp only [asc]
  refine bnd fun x hx => ?_
  show (must e "most" x.2.2 >>= _) = _
  rw [must_eq]
  refine bnd fun m _ => ?_
  rw [number_eq]
  refine bnd fun c _ => ?_
  rw [must_eq]
  refine bnd fun m2 _ => ?_
  rw [number_eq]
  refine bnd fun o _ => ?_
  cases o.2 with
  | nil => rfl
  | cons w r =>
    rw [must_eq]
    by_cases h : w.w = ascii "hold"
    · simp only [ifM, fixM, h, if_true, hoptM, asc]
      show (number e 1 15 r >>= _) = _
      rw [number_eq]
      refine bnd fun z _ => ?_
      rfl
    · simp [ifM, fixM, h, bind, Except.bind, closed, hoptM]; rfl
end Bt
end
section
set_option Elab.async false
set_option linter.all false
namespace Bt
open Tilt
theorem idx_find {α : Type} (f : α → Bytes) (w : Bytes) : ∀ l : List α, l[(l.map f).findIdx fun n => n == w]? = l.find? fun s => f s == w
  | [] => rfl
  | a :: r => by
    rw [List.map_cons, List.findIdx_cons, List.find?_cons]
    by_cases h : (f a == w) = true
    · simp [h]
    · have h' : (f a == w) = false := by simpa using h
      simp only [h', cond_false]
      rw [List.getElem?_cons_succ, idx_find f w r]
theorem find_some {α : Type} {f : α → Bytes} {w : Bytes} {l : List α} (h : w ∈ l.map f) : ∃ s, l.find? (fun s => f s == w) = some s ∧ s ∈ l ∧ f s = w := by
  cases q : l.find? (fun s => f s == w) with
  | none =>
    rw [List.find?_eq_none] at q
    obtain ⟨s, hs, e⟩ := List.mem_map.mp h
    exact absurd (by simp [e]) (q s hs)
  | some s =>
    have := List.find?_some q
    exact ⟨s, rfl, List.mem_of_find?_eq_some q, by simpa using this⟩
theorem nd_inj {α : Type} {f : α → Bytes} : ∀ {l : List α}, (l.map f).Nodup → ∀ a ∈ l, ∀ b ∈ l, f a = f b → a = b
  | [], _, _, h, _, _, _ => nomatch h
  | x :: r, hn, a, ha, b, hb, e => by
    rw [List.map_cons, List.nodup_cons] at hn
    rcases List.mem_cons.mp ha with rfl | ha
    · rcases List.mem_cons.mp hb with rfl | hb
      · rfl
      · exact absurd (List.mem_map.mpr ⟨b, hb, e.symm⟩) hn.1
    · skip
      rcases List.mem_cons.mp hb with rfl | hb
      · exact absurd (List.mem_map.mpr ⟨a, ‹a ∈ r›, e⟩) hn.1
      · exact nd_inj hn.2 a ‹a ∈ r› b ‹b ∈ r› e
theorem pw_inj {α : Type} {f : α → Nat} : ∀ {l : List α}, l.Pairwise (fun a b => f a < f b) → ∀ a ∈ l, ∀ b ∈ l, f a = f b → a = b
  | [], _, _, h, _, _, _ => nomatch h
  | x :: r, hn, a, ha, b, hb, e => by
    rw [List.pairwise_cons] at hn
    rcases List.mem_cons.mp ha with rfl | ha
    · rcases List.mem_cons.mp hb with rfl | hb
      · rfl
      · have := hn.1 b hb; omega
    · rcases List.mem_cons.mp hb with rfl | hb
      · have := hn.1 a ‹a ∈ r›; omega
      · exact pw_inj hn.2 a ‹a ∈ r› b ‹b ∈ r› e
theorem sw_np {T : Table} (h1 : (T.switches.map fun s => s.name).Nodup) (h2 : T.switches.Pairwise fun a b => a.place < b.place) {a b : Switch} (ha : a ∈ T.switches) (hb : b ∈ T.switches) : a.name = b.name ↔ a.place = b.place :=
  ⟨fun e => by rw [nd_inj (f := fun s : Switch => s.name) h1 a ha b hb e], fun e => by rw [pw_inj (f := fun s : Switch => s.place) h2 a ha b hb e]⟩
theorem co_np {T : Table} (h1 : (T.coils.map fun s => s.name).Nodup) (h2 : T.coils.Pairwise fun a b => a.place < b.place) {a b : Coil} (ha : a ∈ T.coils) (hb : b ∈ T.coils) : a.name = b.name ↔ a.place = b.place :=
  ⟨fun e => by rw [nd_inj (f := fun s : Coil => s.name) h1 a ha b hb e], fun e => by rw [pw_inj (f := fun s : Coil => s.place) h2 a ha b hb e]⟩
theorem sw_known {p : PT} {w : Bytes} (h : w ∈ swN p) : ∃ s ∈ p.T.switches, s.name = w ∧ p.T.switches[(swN p).findIdx fun n => n == w]? = some s ∧ placeOf p w = s.place := by
  obtain ⟨s, h1, h2, h3⟩ := find_some (f := fun s : Switch => s.name) h
  refine ⟨s, h2, h3, by rw [swN, idx_find]; exact h1, ?_⟩
  unfold placeOf
  rw [h1]; rfl
theorem co_known {p : PT} {w : Bytes} (h : w ∈ coN p) : ∃ s ∈ p.T.coils, s.name = w ∧ p.T.coils[(coN p).findIdx fun n => n == w]? = some s ∧ coilOf p w = s := by
  obtain ⟨s, h1, h2, h3⟩ := find_some (f := fun s : Coil => s.name) h
  refine ⟨s, h2, h3, by rw [coN, idx_find]; exact h1, ?_⟩
  unfold coilOf
  rw [h1]; rfl
theorem HeldR.more {T : Table} (h1 : (T.switches.map fun s => s.name).Nodup) (h2 : T.switches.Pairwise fun a b => a.place < b.place) {had : List Nat} {held : List Bytes} (h : HeldR T had held) {s : Switch} (hs : s ∈ T.switches) : HeldR T (had ++ [s.place]) (held ++ [s.name]) := by
  intro a ha
  have := h a ha
  have q := sw_np h1 h2 ha hs
  simp only [List.mem_append, List.mem_singleton] at this ⊢
  rw [q, this]
  simp only [or_assoc]
def endHeld (had : List Nat) (l : List Word) : F (List Nat × Bool) := closed (ifM DRAIN l).2 >>= fun _ => .ok (had, (ifM DRAIN l).1)
theorem knwM_w {e : Nat} {names : List Bytes} {l : List Word} {x : Word × List Word} (h : knwM e names l = .ok x) : l = x.1 :: x.2 := by
  cases l with
  | nil => cases h
  | cons w r =>
    simp only [knwM] at h
    split at h
    · split at h
      · cases h; rfl
      · cases h
    · cases h
theorem held_step {e : Nat} {p : PT} (had : List Nat) (hh : HeldR p.T had p.held) (w : Word) (r : List Word) {b : Type} (k : (Nat × List Word) → F b) :
    (known e (p.T.switches.map fun s => s.name) (w :: r) >>= fun x => holds (!(p.T.held ++ had).contains (((p.T.switches[x.1.1]?).map fun s => s.place).getD 0)) 7 x.1.2 >>= fun _ => k (((p.T.switches[x.1.1]?).map fun s => s.place).getD 0, x.2)) =
      (holdM e p (w :: r) >>= fun x => k (placeOf p w.w, x.2)) := by
  rw [knw_known]
  unfold holdM
  simp only [asc]
  refine bnd fun x hx => ?_
  obtain ⟨h1, h2⟩ := knwM_in hx
  have hw := knwM_w hx
  obtain ⟨s, hs, hn, hi, hp⟩ := sw_known (p := p) h1
  show (holds (!(p.T.held ++ had).contains (((p.T.switches[(swN p).findIdx fun n => n == x.1.w]?).map fun s => s.place).getD 0)) 7 x.1.at_ >>= fun _ => k (((p.T.switches[(swN p).findIdx fun n => n == x.1.w]?).map fun s => s.place).getD 0, x.2)) = _
  rw [hi]
  simp only [Option.map_some, Option.getD_some]
  have q := hh s hs
  rw [hn] at q
  have hw1 : w = x.1 := by injection hw
  rw [hw1, hp]
  unfold holds
  by_cases c : x.1.w ∈ p.held
  · have c2 := q.mp c
    rw [if_pos c, if_neg (by simp only [List.contains_iff_mem.mpr c2]; decide)]; rfl
  · have c2 : ¬ s.place ∈ p.T.held ++ had := fun z => c (q.mpr z)
    rw [if_neg c, if_pos (by simpa using c2)]; rfl
theorem holdM_ok {e : Nat} {p : PT} {l : List Word} {x : PT × List Word} (h : holdM e p l = .ok x) : ∃ w r, l = w :: r ∧ w.w ∈ swN p ∧ w.w ∉ p.held ∧ isName w.w = true ∧ x = ({ p with held := p.held ++ [w.w] }, r) := by
  unfold holdM at h
  cases h1 : knwM e (swN p) l with
  | error f => rw [h1] at h; cases h
  | ok y =>
    rw [h1] at h
    simp only [bind, Except.bind] at h
    obtain ⟨a, b⟩ := knwM_in h1
    split at h
    · cases h
    · rename_i c; cases h; exact ⟨y.1, y.2, knwM_w h1, a, c, b, rfl⟩
theorem freeM_ok {e : Nat} {p : PT} {l : List Word} {x : Bytes × PT × List Word} (h : freeM e p l = .ok x) : x.1 ∈ coN p ∧ x.1 ∉ p.serving ∧ x.2.1 = { p with serving := p.serving ++ [x.1] } := by
  unfold freeM at h
  cases h1 : knwM e (coN p) l with
  | error f => rw [h1] at h; cases h
  | ok y =>
    rw [h1] at h
    simp only [bind, Except.bind] at h
    obtain ⟨a, b⟩ := knwM_in h1
    split at h
    · cases h
    · rename_i c; cases h; exact ⟨a, c, rfl⟩
theorem moreM_ok {e : Nat} : ∀ {k n : Nat} {p : PT} {l : List Word} {m : Nat × PT × List Word}, moreM e k n p l = .ok m → ∃ ns, m.2.1 = { p with held := p.held ++ ns } ∧ m.1 = n + ns.length ∧ ns.length ≤ k ∧ ∀ w ∈ ns, w ∈ swN p
  | 0, n, p, l, m, h => by cases h; exact ⟨[], by simp, rfl, Nat.le_refl _, by simp⟩
  | k + 1, n, p, [], m, h => by simp only [moreM] at h; cases h; exact ⟨[], by simp, rfl, Nat.zero_le _, by simp⟩
  | k + 1, n, p, w :: r, m, h => by
    simp only [moreM] at h
    split at h
    · cases h; exact ⟨[], by simp, rfl, Nat.zero_le _, by simp⟩
    · cases h1 : holdM e p (w :: r) with
      | error f => rw [h1] at h; cases h
      | ok x =>
        rw [h1] at h
        obtain ⟨w', r', e1, h2, h3, h4, rfl⟩ := holdM_ok h1
        cases e1
        obtain ⟨ns, a, b, c, d⟩ := moreM_ok h
        refine ⟨w.w :: ns, by rw [a]; simp, by rw [b]; simp; omega, by simp; omega, fun z hz => ?_⟩
        rcases List.mem_cons.mp hz with rfl | hz
        · exact h2
        · exact d z hz
theorem held_eq {e : Nat} : ∀ (k : Nat) (had : List Nat) (p : PT) (l : List Word), (p.T.switches.map fun s => s.name).Nodup → (p.T.switches.Pairwise fun a b => a.place < b.place) → HeldR p.T had p.held → had ≠ [] →
    heldIn e p.T k had l = (moreM e k had.length p l >>= fun m => endHeld (had ++ (m.2.1.held.drop p.held.length).map (placeOf p)) m.2.2)
  | 0, had, p, l, h1, h2, hh, hn => by
    show _ = endHeld _ l
    rw [List.drop_length, List.map_nil, List.append_nil]
    cases l with
    | nil => rfl
    | cons w r =>
      by_cases c : w.w = DRAIN
      · simp only [heldIn, endHeld, ifM, c, if_true]; cases r <;> rfl
      · simp only [heldIn, endHeld, ifM, c, if_false]; rfl
  | k + 1, had, p, [], h1, h2, hh, hn => by
    show _ = endHeld _ []
    rw [List.drop_length, List.map_nil, List.append_nil]
    match had, hn with
    | a :: r, _ => rfl
  | k + 1, had, p, w :: r, h1, h2, hh, hn => by
    by_cases c : w.w = DRAIN
    · have q : moreM e (k + 1) had.length p (w :: r) = .ok (had.length, p, w :: r) := by simp [moreM, c]
      rw [q]
      show _ = endHeld _ (w :: r)
      rw [List.drop_length, List.map_nil, List.append_nil]
      match had, hn with
      | a :: s, _ =>
        simp only [heldIn, endHeld, ifM, c, if_true]
        simp
        cases r <;> rfl
    · have q : moreM e (k + 1) had.length p (w :: r) = (holdM e p (w :: r) >>= fun x => moreM e k (had.length + 1) x.1 x.2) := by simp [moreM, c]
      rw [q]
      have z : heldIn e p.T (k + 1) had (w :: r) = (known e (p.T.switches.map fun s => s.name) (w :: r) >>= fun x => holds (!(p.T.held ++ had).contains (((p.T.switches[x.1.1]?).map fun s => s.place).getD 0)) 7 x.1.2 >>= fun _ => heldIn e p.T k (had ++ [((p.T.switches[x.1.1]?).map fun s => s.place).getD 0]) x.2) := by
        match had, hn with
        | a :: s, _ =>
          rw [heldIn]
          rw [if_neg (by rintro ⟨_, z⟩; exact c z)]
      rw [z, held_step had hh w r (fun y => heldIn e p.T k (had ++ [y.1]) y.2), asc]
      refine bnd fun x hx => ?_
      obtain ⟨w', r', e1, m1, m2, m3, rfl⟩ := holdM_ok hx
      cases e1
      obtain ⟨s, hs, hnm, _, hp⟩ := sw_known m1
      have ih := held_eq (e := e) k (had ++ [placeOf p w.w]) { p with held := p.held ++ [w.w] } r h1 h2 (by rw [hp, ← hnm]; exact hh.more h1 h2 hs) (by simp)
      show heldIn e p.T k (had ++ [placeOf p w.w]) r = _
      rw [ih, List.length_append, List.length_singleton]
      refine bnd fun m hm => ?_
      obtain ⟨ns, a, b, _, _⟩ := moreM_ok hm
      rw [a]
      simp only [List.append_assoc, List.drop_left]
      congr 1
      have e2 : (p.held ++ ([w.w] ++ ns)).drop (p.held ++ [w.w]).length = ns := by rw [← List.append_assoc, List.drop_left]
      rw [e2]; rfl
theorem coil_step {e : Nat} {p : PT} (R : Rep p) (l : List Word) (ok : Coil → Bool) (hok : ∀ c ∈ p.T.coils, ok c = !decide (c.name ∈ p.serving)) {b : Type} (k : (Coil × List Word) → F b) :
    (coilNamed e p.T l >>= fun c => holds (ok c.1.1) 7 c.1.2 >>= fun _ => k (c.1.1, c.2)) = (freeM e p l >>= fun c => k (coilOf p c.1, c.2.2)) := by
  unfold coilNamed
  rw [knw_known]
  unfold freeM
  simp only [asc]
  refine bnd fun x hx => ?_
  obtain ⟨h1, h2⟩ := knwM_in hx
  obtain ⟨c, hc, hn, hi, hp⟩ := co_known (p := p) h1
  show (holds (ok ((p.T.coils[(coN p).findIdx fun n => n == x.1.w]?).getD ⟨0, 0, 0, 0, []⟩)) 7 x.1.at_ >>= fun _ => k ((p.T.coils[(coN p).findIdx fun n => n == x.1.w]?).getD ⟨0, 0, 0, 0, []⟩, x.2)) = _
  rw [hi]
  simp only [Option.getD_some]
  rw [hok c hc, hn]
  unfold holds
  by_cases q : x.1.w ∈ p.serving
  · rw [if_pos q, if_neg (by simp [q])]; rfl
  · rw [if_neg q, if_pos (by simp [q])]
    show k (c, x.2) = k (coilOf p x.1.w, x.2)
    rw [hp]
theorem device_eq {e : Nat} {p : PT} (R : Rep p) (hk : p.T.kicks = []) (l : List Word) : deviceIn e p.T l = (deviceM e p l >>= fun x => closed x.2 >>= fun _ => .ok x.1.T) := by
  have e1 : deviceIn e p.T l = (newName e (p.T.devices.map fun s => s.name) l >>= fun n => must e "by" n.2 >>= fun l => coilNamed e p.T l >>= fun c =>
      holds (!(p.T.devices.any fun d => d.coil == c.1.1.place)) 7 c.1.2 >>= fun _ => (fun y : Coil × List Word => must e "holds" y.2 >>= fun l => heldIn e p.T 8 [] l >>= fun h =>
      .ok { p.T with devices := p.T.devices ++ [⟨y.1.place, h.1, h.2, n.1⟩] }) (c.1.1, c.2)) := by
    simp only [asc]; rfl
  rw [e1, newName_eq]
  unfold deviceM
  simp only [asc]
  refine bnd fun n _ => ?_
  rw [must_eq]
  refine bnd fun m _ => ?_
  refine (coil_step R m (fun c => !(p.T.devices.any fun d => d.coil == c.place)) (fun c hc => by
    have := R.serving c hc
    rw [hk] at this
    simp only [List.any_nil, Bool.false_eq_true, or_false] at this
    cases q : (p.T.devices.any fun d => d.coil == c.place) with
    | true => simp [this.mpr q]
    | false => simp [show ¬ c.name ∈ p.serving from fun z => by rw [this.mp z] at q; cases q]) (fun y : Coil × List Word => (must e "holds" y.2 >>= fun l => heldIn e p.T 8 [] l >>= fun h =>
      .ok { p.T with devices := p.T.devices ++ [(⟨y.1.place, h.1, h.2, n.1⟩ : Device)] } : F Table))).trans ?_
  refine bnd fun c hc => ?_
  obtain ⟨c1, c2, c3⟩ := freeM_ok hc
  rw [must_eq]
  refine bnd fun m2 _ => ?_
  have z : heldIn e p.T 8 [] m2 = (holdM e c.2.1 m2 >>= fun h => moreM e 7 1 h.1 h.2 >>= fun m => endHeld ((m.2.1.held.drop p.held.length).map (placeOf p)) m.2.2) := by
    cases m2 with
    | nil => rfl
    | cons w r =>
      have z : heldIn e p.T 8 [] (w :: r) = (known e (p.T.switches.map fun s => s.name) (w :: r) >>= fun x => holds (!(p.T.held ++ []).contains (((p.T.switches[x.1.1]?).map fun s : Switch => s.place).getD 0)) 7 x.1.2 >>= fun _ => heldIn e p.T 7 ([] ++ [((p.T.switches[x.1.1]?).map fun s : Switch => s.place).getD 0]) x.2) := by
        rw [heldIn]
        rw [if_neg (by rintro ⟨z, _⟩; exact z rfl)]
      have hT : c.2.1.T = p.T := by rw [c3]
      have hH : c.2.1.held = p.held := by rw [c3]
      have hP : ∀ w, placeOf c.2.1 w = placeOf p w := fun w => by rw [c3]; rfl
      rw [z, ← hT, held_step (p := c.2.1) [] (by rw [hT, hH]; exact R.held) w r (fun y => heldIn e c.2.1.T 7 ([] ++ [y.1]) y.2)]
      refine bnd fun x hx => ?_
      obtain ⟨w', r', e1, m1, m2, m3, rfl⟩ := holdM_ok hx
      cases e1
      obtain ⟨s, hs, hnm, _, hp⟩ := sw_known m1
      have ih := held_eq (e := e) 7 ([] ++ [placeOf c.2.1 w.w]) { c.2.1 with held := c.2.1.held ++ [w.w] } r (by rw [hT]; exact R.swn) (by rw [hT]; exact R.swp)
        (by
          rw [hp, ← hnm]
          exact HeldR.more (T := c.2.1.T) (by rw [hT]; exact R.swn) (by rw [hT]; exact R.swp) (by rw [hT, hH]; exact R.held) hs) (by simp)
      show heldIn e c.2.1.T 7 ([] ++ [placeOf c.2.1 w.w]) r = _
      rw [ih]
      refine bnd fun m hm => ?_
      obtain ⟨ns, a, b, _, _⟩ := moreM_ok hm
      rw [a]
      simp only [List.append_assoc, hH, List.nil_append]
      congr 1
      have e2 : (p.held ++ ([w.w] ++ ns)).drop (p.held ++ [w.w]).length = ns := by rw [← List.append_assoc, List.drop_left]
      rw [e2, List.drop_left, hP]
      show placeOf p w.w :: ns.map (placeOf { c.2.1 with held := p.held ++ [w.w] }) = (w.w :: ns).map (placeOf p)
      rw [List.map_cons]
      congr 1
      exact List.map_congr_left fun v _ => hP v
  rw [z]
  simp only [asc]
  refine bnd fun h hh => ?_
  refine bnd fun m hm => ?_
  unfold endHeld
  simp only [asc]
  rfl
theorem holds_bind {b : Type} (ok : Bool) (k q : Nat) (f : Unit → F b) : (holds ok k q >>= f) = if ok = true then f () else .error ⟨k, q⟩ := by cases ok <;> rfl
def kickRest (e : Nat) (p : PT) (P : Nat) (y : Coil × List Word) : F Table := must e "for" y.2 >>= fun l => number e 1 255 l >>= fun t => holds (decide (t.1.1 ≤ y.1.most)) 7 t.1.2 >>= fun _ =>
      if t.2.isEmpty = true then .ok { p.T with kicks := p.T.kicks ++ [⟨P, y.1.place, t.1.1, none⟩] } else
      must e "till" t.2 >>= fun l => known e (p.T.switches.map fun s => s.name) l >>= fun u =>
      holds (((p.T.switches[u.1.1]?).map fun s => s.place).getD 0 != P) 7 u.1.2 >>= fun _ => closed u.2 >>= fun _ =>
      .ok { p.T with kicks := p.T.kicks ++ [⟨P, y.1.place, t.1.1, some (((p.T.switches[u.1.1]?).map fun s => s.place).getD 0)⟩] }
def kickMid (e : Nat) (p : PT) (P : Nat) (a : Nat) (r : List Word) : F Table := holds (p.T.kicks.all fun k => decide (k.first < P)) 5 a >>= fun _ =>
      holds (!p.T.held.contains P) 7 a >>= fun _ => coilNamed e p.T r >>= fun c =>
      holds (!(p.T.devices.any fun d => d.coil == c.1.1.place) && !(p.T.kicks.any fun k => k.coil == c.1.1.place)) 7 c.1.2 >>= fun _ => kickRest e p P (c.1.1, c.2)
theorem kick_eq {e : Nat} {p : PT} (R : Rep p) (l : List Word) : kickIn e p.T l = (kickM e p l >>= fun x => closed x.2 >>= fun _ => .ok x.1.T) := by
  have e1 : kickIn e p.T l = (known e (p.T.switches.map fun s => s.name) l >>= fun s => kickMid e p (((p.T.switches[s.1.1]?).map fun s => s.place).getD 0) s.1.2 s.2) := rfl
  rw [e1, knw_known]
  unfold kickM
  simp only [asc]
  refine bnd fun s hs => ?_
  obtain ⟨h1, h2⟩ := knwM_in hs
  obtain ⟨a, ha, hn, hi, hp⟩ := sw_known (p := p) h1
  show kickMid e p (((p.T.switches[(swN p).findIdx fun n => n == s.1.w]?).map fun s => s.place).getD 0) s.1.at_ s.2 = _
  rw [hi]
  show kickMid e p a.place s.1.at_ s.2 = _
  rw [← hp]
  unfold kickMid reachM
  rw [R.rKi, holds_bind]
  cases q1 : (p.T.kicks.all fun k => decide (k.first < placeOf p s.1.w)) with
  | false => rfl
  | true =>
    rw [if_pos rfl]
    rw [if_neg (by decide)]
    show _ = ((if s.1.w ∈ p.held then .error ⟨7, s.1.at_⟩ else .ok () : F Unit) >>= _)
    rw [holds_bind]
    have qh := R.held a ha
    rw [hn, List.append_nil, ← hp] at qh
    by_cases c : s.1.w ∈ p.held
    · have c2 := qh.mp c
      rw [if_pos c, if_neg (by simp [c2])]; rfl
    · have c2 : ¬ placeOf p s.1.w ∈ p.T.held := fun z => c (qh.mpr z)
      rw [if_neg c, if_pos (by simp [c2])]
      refine (coil_step (e := e) R s.2 (fun c => !(p.T.devices.any fun d => d.coil == c.place) && !(p.T.kicks.any fun k => k.coil == c.place)) (fun c hc => by
        have := R.serving c hc
        cases q : (p.T.devices.any fun d => d.coil == c.place) with
        | true => simp [this.mpr (.inl q)]
        | false =>
          cases q2 : (p.T.kicks.any fun d => d.coil == c.place) with
          | true => simp [this.mpr (.inr q2)]
          | false =>
            have : ¬ c.name ∈ p.serving := fun z => by
              rcases this.mp z with y | y
              · rw [y] at q; cases q
              · rw [y] at q2; cases q2
            simp [this]) (kickRest e p (placeOf p s.1.w))).trans ?_
      have ef : freeM e { p with reached := (kKi, placeOf p s.1.w) :: p.reached } s.2 = (freeM e p s.2 >>= fun c => .ok (c.1, { c.2.1 with reached := (kKi, placeOf p s.1.w) :: p.reached }, c.2.2)) := by
        unfold freeM
        simp only [asc]
        refine bnd fun x hx => ?_
        show (if x.1.w ∈ p.serving then _ else _) = ((if x.1.w ∈ p.serving then _ else _) >>= _)
        by_cases c : x.1.w ∈ p.serving
        · rw [if_pos c, if_pos c]; rfl
        · rw [if_neg c, if_neg c]; rfl
      show _ = (freeM e { p with reached := (kKi, placeOf p s.1.w) :: p.reached } s.2 >>= _)
      rw [ef]
      simp only [asc]
      refine bnd fun c hc => ?_
      unfold kickRest
      rw [must_eq]
      refine bnd fun m _ => ?_
      rw [number_eq]
      refine bnd fun t _ => ?_
      rw [holds_bind]
      show (if decide (t.1.1 ≤ (coilOf p c.1).most) = true then _ else _) = ((if (coilOf p c.1).most < t.1.1 then _ else _) >>= _)
      by_cases q2 : (coilOf p c.1).most < t.1.1
      · rw [if_pos q2, if_neg (by simp; omega)]; rfl
      · rw [if_neg q2, if_pos (by simp; omega)]
        cases t.2 with
        | nil => rfl
        | cons w r =>
          rw [must_eq]
          by_cases h : w.w = ascii "till"
          · simp only [ifM, fixM, h, if_true, tillM]
            show (known e (p.T.switches.map fun s => s.name) r >>= _) = _
            rw [knw_known]
            simp only [asc]
            refine bnd fun u hu => ?_
            obtain ⟨g1, g2⟩ := knwM_in hu
            obtain ⟨b, hb, hbn, hbi, hbp⟩ := sw_known (p := p) g1
            show (holds (((p.T.switches[(swN p).findIdx fun n => n == u.1.w]?).map fun s => s.place).getD 0 != placeOf p s.1.w) 7 u.1.at_ >>= fun _ => closed u.2 >>= fun _ => (.ok { p.T with kicks := p.T.kicks ++ [(⟨placeOf p s.1.w, (coilOf p c.1).place, t.1.1, some (((p.T.switches[(swN p).findIdx fun n => n == u.1.w]?).map fun s => s.place).getD 0)⟩ : Kick)] } : F Table)) = _
            rw [hbi]
            show (holds (b.place != placeOf p s.1.w) 7 u.1.at_ >>= fun _ => closed u.2 >>= fun _ => (.ok { p.T with kicks := p.T.kicks ++ [(⟨placeOf p s.1.w, (coilOf p c.1).place, t.1.1, some b.place⟩ : Kick)] } : F Table)) = _
            rw [← hbp, holds_bind]
            have qq := sw_np R.swn R.swp hb ha
            rw [hbn, hn, ← hp, ← hbp] at qq
            by_cases z : u.1.w = s.1.w
            · rw [if_pos z, if_neg (by simp [qq.mp z])]; rfl
            · rw [if_neg z, if_pos (by simp; exact fun y => z (qq.mpr y))]; rfl
          · simp only [ifM, fixM, h, if_false, tillM]; rfl
end Bt
end
section
set_option Elab.async false
set_option linter.all false
namespace Bt
open Tilt
theorem past_cons (p : PT) (s t : Bytes) (m n : Nat) : ({ p with reached := (s, m) :: p.reached } : PT).past t n = if t = s then decide (n ≤ m) else p.past t n := by
  unfold PT.past
  rw [List.lookup_cons]
  by_cases h : t = s
  · subst h; simp
  · have : (t == s) = false := by simpa using h
    simp [this, h]
theorem all_snoc {l : List Nat} {m : Nat} (h : (l.all fun k => decide (k < m)) = true) (n : Nat) : decide (n ≤ m) = !(l ++ [m]).all fun k => decide (k < n) := by
  rw [List.all_append]
  simp only [List.all_cons, List.all_nil, Bool.and_true]
  by_cases c : n ≤ m
  · have : decide (m < n) = false := by simpa using c
    rw [this]; simpa using c
  · have h1 : (l.all fun k => decide (k < n)) = true := by
      rw [List.all_eq_true] at h ⊢
      intro x hx
      have := h x hx
      simp only [decide_eq_true_eq] at this ⊢
      omega
    have h2 : decide (m < n) = true := by simp; omega
    rw [h1, h2]; simpa using c
theorem pw_snoc {α : Type} {f : α → Nat} {l : List α} {a : α} (h : l.Pairwise fun a b => f a < f b) (q : ((l.map f).all fun k => decide (k < f a)) = true) : (l ++ [a]).Pairwise fun a b => f a < f b := by
  rw [List.pairwise_append]
  refine ⟨h, List.pairwise_singleton .., fun b hb c hc => ?_⟩
  rw [List.mem_singleton] at hc
  subst hc
  rw [List.all_eq_true] at q
  simpa using q (f b) (List.mem_map.mpr ⟨b, hb, rfl⟩)
theorem nd_snocB {l : List Bytes} {k : Bytes} (h : l.Nodup) (hk : k ∉ l) : (l ++ [k]).Nodup := by
  rw [List.nodup_append]
  exact ⟨h, by simp, fun a ha b hb => by simp at hb; subst hb; rintro rfl; exact hk ha⟩
theorem kne : kLa ≠ kSw ∧ kCo ≠ kSw ∧ kKi ≠ kSw ∧ kSw ≠ kLa ∧ kCo ≠ kLa ∧ kKi ≠ kLa ∧ kSw ≠ kCo ∧ kLa ≠ kCo ∧ kKi ≠ kCo ∧ kSw ≠ kKi ∧ kLa ≠ kKi ∧ kCo ≠ kKi := by decide
theorem bind_ok {a b : Type} {x : F a} {f : a → F b} {z : b} (h : (x >>= f) = .ok z) : ∃ y, x = .ok y ∧ f y = .ok z := by
  cases x with
  | error e => cases h
  | ok y => exact ⟨y, rfl, h⟩
theorem switch_rep {e : Nat} {p : PT} (R : Rep p) {l : List Word} {x : PT × List Word} (h : switchM e p l = .ok x) (hd : p.T.devices = []) (hk : p.T.kicks = []) : Rep x.1 ∧ x.1.sz ≤ p.sz + 2 ∧ x.1.T.devices = [] ∧ x.1.T.kicks = [] := by
  unfold switchM at h
  obtain ⟨n, h1, h⟩ := bind_ok h
  obtain ⟨y, h2, h⟩ := bind_ok h
  obtain ⟨l3, h3, h⟩ := bind_ok h
  obtain ⟨c, h4, h⟩ := bind_ok h
  obtain ⟨l5, h5, h⟩ := bind_ok h
  obtain ⟨o, h6, h⟩ := bind_ok h
  cases h
  obtain ⟨n1, n2, n3⟩ := newM_had h1
  obtain ⟨p1, p2, p3⟩ := placeM_ok h2
  have b1 := numM_ok h4
  have b2 := numM_ok h6
  rw [p2]
  have q := R.rSw y.1
  rw [p1] at q
  have q' : ((p.T.switches.map fun s => s.place).all fun m => decide (m < y.1)) = true := by simpa using q.symm
  obtain ⟨k1, k2, k3, k4, k5, k6, k7, k8, k9, k10, k11, k12⟩ := kne
  have hheld : p.T.held = [] := by unfold Table.held; rw [hd]; rfl
  have h0 : p.held = [] ∨ ∃ a, a ∈ p.held := by
    cases p.held with
    | nil => exact .inl rfl
    | cons a _ => exact .inr ⟨a, by simp⟩
  have hp0 : ∀ a, a ∉ p.held := fun a ha => by
    obtain ⟨s, hs, e⟩ := List.mem_map.mp (R.hin a ha)
    have := (R.held s hs).mp (by rw [e]; exact ha)
    rw [hheld] at this; simp at this
  refine ⟨⟨R.drained, ?_, R.serving, ?_, ?_, ?_, ?_, ?_, ?_, R.con, R.cop, ?_, R.sin, ?_, ?_, R.dl, R.kl⟩, ?_, hd, hk⟩
  · intro s hs
    refine ⟨fun z => absurd z (hp0 _), fun z => ?_⟩
    have z' : s.place ∈ p.T.held ++ [] := z
    rw [hheld] at z'; simp at z'
  · intro m
    refine (past_cons p kSw kSw y.1 m).trans ?_
    rw [if_pos rfl, List.map_append]
    exact all_snoc q' m
  · intro m; exact (past_cons p kSw kLa y.1 m).trans (by rw [if_neg k1]; exact R.rLa m)
  · intro m; exact (past_cons p kSw kCo y.1 m).trans (by rw [if_neg k2]; exact R.rCo m)
  · intro m; exact (past_cons p kSw kKi y.1 m).trans (by rw [if_neg k3]; exact R.rKi m)
  · show ((p.T.switches ++ [_]).map _).Nodup
    rw [List.map_append]; exact nd_snocB R.swn n2
  · exact pw_snoc (f := fun s : Switch => s.place) R.swp q'
  · intro a ha; exact absurd ha (hp0 a)
  · intro s hs
    rcases List.mem_append.mp hs with hs | hs
    · exact R.b63 s hs
    · rw [List.mem_singleton] at hs; subst hs; exact ⟨p3, b1.1, b2.1⟩
  · intro s hs
    rcases List.mem_append.mp hs with hs | hs
    · exact R.nms s hs
    · rw [List.mem_singleton] at hs; subst hs; exact n1
  · show (p.T.switches ++ [_]).length + _ + _ + _ + _ + _ + (_ :: p.reached).length ≤ _
    rw [List.length_append]; simp only [List.length_cons, List.length_nil]; unfold PT.sz; omega
theorem lamp_rep {e : Nat} {p : PT} (R : Rep p) {l : List Word} {x : PT × List Word} (h : lampM e p l = .ok x) : Rep x.1 ∧ x.1.sz ≤ p.sz + 2 ∧ x.1.T.devices = p.T.devices ∧ x.1.T.kicks = p.T.kicks := by
  unfold lampM at h
  obtain ⟨n, h1, h⟩ := bind_ok h
  obtain ⟨y, h2, h⟩ := bind_ok h
  cases h
  obtain ⟨p1, p2, p3⟩ := placeM_ok h2
  rw [p2]
  have q := R.rLa y.1
  rw [p1] at q
  have q' : ((p.T.lamps.map fun s => s.place).all fun m => decide (m < y.1)) = true := by simpa using q.symm
  obtain ⟨k1, k2, k3, k4, k5, k6, k7, k8, k9, k10, k11, k12⟩ := kne
  refine ⟨⟨R.drained, R.held, R.serving, ?_, ?_, ?_, ?_, R.swn, R.swp, R.con, R.cop, R.hin, R.sin, R.b63, R.nms, R.dl, R.kl⟩, ?_, rfl, rfl⟩
  · intro m; exact (past_cons p kLa kSw y.1 m).trans (by rw [if_neg k4]; exact R.rSw m)
  · intro m
    refine (past_cons p kLa kLa y.1 m).trans ?_
    rw [if_pos rfl, List.map_append]
    exact all_snoc q' m
  · intro m; exact (past_cons p kLa kCo y.1 m).trans (by rw [if_neg k5]; exact R.rCo m)
  · intro m; exact (past_cons p kLa kKi y.1 m).trans (by rw [if_neg k6]; exact R.rKi m)
  · show _ + (p.T.lamps ++ [_]).length + _ + _ + _ + _ + (_ :: p.reached).length ≤ _
    rw [List.length_append]; simp only [List.length_cons, List.length_nil]; unfold PT.sz; omega
theorem coil_rep {e : Nat} {p : PT} (R : Rep p) {l : List Word} {x : PT × List Word} (h : coilM e p l = .ok x) (hd : p.T.devices = []) (hk : p.T.kicks = []) : Rep x.1 ∧ x.1.sz ≤ p.sz + 2 ∧ x.1.T.devices = [] ∧ x.1.T.kicks = [] := by
  unfold coilM at h
  obtain ⟨n, h1, h⟩ := bind_ok h
  obtain ⟨y, h2, h⟩ := bind_ok h
  obtain ⟨l3, h3, h⟩ := bind_ok h
  obtain ⟨c, h4, h⟩ := bind_ok h
  obtain ⟨l5, h5, h⟩ := bind_ok h
  obtain ⟨o, h6, h⟩ := bind_ok h
  obtain ⟨o2, h7, h⟩ := bind_ok h
  cases h
  obtain ⟨n1, n2, n3⟩ := newM_had h1
  obtain ⟨p1, p2, p3⟩ := placeM_ok h2
  rw [p2]
  have q := R.rCo y.1
  rw [p1] at q
  have q' : ((p.T.coils.map fun s => s.place).all fun m => decide (m < y.1)) = true := by simpa using q.symm
  obtain ⟨k1, k2, k3, k4, k5, k6, k7, k8, k9, k10, k11, k12⟩ := kne
  have hp0 : ∀ a, a ∉ p.serving := fun a ha => by
    obtain ⟨s, hs, e⟩ := List.mem_map.mp (R.sin a ha)
    have := (R.serving s hs).mp (by rw [e]; exact ha)
    rw [hd, hk] at this; simp at this
  refine ⟨⟨R.drained, R.held, ?_, ?_, ?_, ?_, ?_, R.swn, R.swp, ?_, ?_, R.hin, ?_, R.b63, R.nms, R.dl, R.kl⟩, ?_, hd, hk⟩
  · intro s hs
    refine ⟨fun z => absurd z (hp0 _), fun z => ?_⟩
    have z' : (p.T.devices.any (fun d => d.coil == s.place) = true ∨ p.T.kicks.any (fun d => d.coil == s.place) = true) := z
    rw [hd, hk] at z'; simp at z'
  · intro m; exact (past_cons p kCo kSw y.1 m).trans (by rw [if_neg k7]; exact R.rSw m)
  · intro m; exact (past_cons p kCo kLa y.1 m).trans (by rw [if_neg k8]; exact R.rLa m)
  · intro m
    refine (past_cons p kCo kCo y.1 m).trans ?_
    rw [if_pos rfl, List.map_append]
    exact all_snoc q' m
  · intro m; exact (past_cons p kCo kKi y.1 m).trans (by rw [if_neg k9]; exact R.rKi m)
  · show ((p.T.coils ++ [_]).map _).Nodup
    rw [List.map_append]; exact nd_snocB R.con n2
  · exact pw_snoc (f := fun s : Coil => s.place) R.cop q'
  · intro a ha; exact absurd ha (hp0 a)
  · show _ + _ + (p.T.coils ++ [_]).length + _ + _ + _ + (_ :: p.reached).length ≤ _
    rw [List.length_append]; simp only [List.length_cons, List.length_nil]; unfold PT.sz; omega
theorem fold_add (l : List Nat) : ∀ a : Nat, l.foldl (fun a b => a + b) a = a + l.foldl (fun a b => a + b) 0 := by
  induction l with
  | nil => intro a; rfl
  | cons b r ih => intro a; rw [List.foldl_cons, List.foldl_cons, ih, ih (0 + b)]; omega
theorem room_snoc (T : Table) (d : Device) : ({ T with devices := T.devices ++ [d] } : Table).room = T.room + if d.drain = true then d.at_.length else 0 := by
  unfold Table.room
  show (((T.devices ++ [d]).filter _).map _).foldl _ _ = _
  rw [List.filter_append, List.map_append, List.foldl_append, fold_add]
  cases h : d.drain <;> simp [h]
theorem heldR_many {T : Table} (h1 : (T.switches.map fun s => s.name).Nodup) (h2 : T.switches.Pairwise fun a b => a.place < b.place) {pl : Bytes → Nat} (hpl : ∀ s ∈ T.switches, pl s.name = s.place) :
    ∀ (ns : List Bytes) {had : List Nat} {held : List Bytes}, HeldR T had held → (∀ w ∈ ns, w ∈ T.switches.map fun s => s.name) → HeldR T (had ++ ns.map pl) (held ++ ns)
  | [], had, held, h, _ => by simpa using h
  | n :: ns, had, held, h, hn => by
    obtain ⟨s, hs, e⟩ := List.mem_map.mp (hn n (by simp))
    have h' := h.more h1 h2 hs
    have := heldR_many h1 h2 hpl ns h' (fun w hw => hn w (by simp [hw]))
    simp only [List.append_assoc, List.singleton_append] at this
    rw [List.map_cons]
    have e1 : s.name = n := e
    rw [← e1, hpl s hs]
    exact this
theorem place_name {p : PT} (R : Rep p) {s : Switch} (hs : s ∈ p.T.switches) : placeOf p s.name = s.place := by
  obtain ⟨a, ha, hn, _, hp⟩ := sw_known (p := p) (w := s.name) (List.mem_map.mpr ⟨s, hs, rfl⟩)
  rw [hp]
  exact (sw_np R.swn R.swp ha hs).mp hn
theorem device_rep {e : Nat} {p : PT} (R : Rep p) {l : List Word} {x : PT × List Word} (h : deviceM e p l = .ok x) (hl : p.T.devices.length < 8) : Rep x.1 ∧ x.1.sz ≤ p.sz + 10 ∧ x.1.T.kicks = p.T.kicks := by
  unfold deviceM at h
  obtain ⟨n, h1, h⟩ := bind_ok h
  obtain ⟨l2, h2, h⟩ := bind_ok h
  obtain ⟨c, h3, h⟩ := bind_ok h
  obtain ⟨l4, h4, h⟩ := bind_ok h
  obtain ⟨y, h5, h⟩ := bind_ok h
  obtain ⟨m, h6, h⟩ := bind_ok h
  cases h
  obtain ⟨c1, c2, c3⟩ := freeM_ok h3
  obtain ⟨w, r, e5, m1, m2, m3, rfl⟩ := holdM_ok h5
  obtain ⟨ns, a1, a2, a3, a4⟩ := moreM_ok h6
  have hsw : swN c.2.1 = swN p := by rw [c3]; rfl
  have hq : m.2.1 = { p with serving := p.serving ++ [c.1], held := p.held ++ (w.w :: ns) } := by rw [a1, c3]; simp
  have hdrop : (m.2.1.held.drop p.held.length) = w.w :: ns := by rw [hq]; exact List.drop_left
  have hall : ∀ v ∈ w.w :: ns, v ∈ p.T.switches.map fun s => s.name := fun v hv => by
    rcases List.mem_cons.mp hv with rfl | hv
    · rw [hsw] at m1; exact m1
    · have z : v ∈ swN c.2.1 := a4 v hv
      rw [hsw] at z; exact z
  have hm1 : m.1 = (w.w :: ns).length := by rw [a2]; simp; omega
  have hheld : ∀ d : Device, ({ p.T with devices := p.T.devices ++ [d] } : Table).held = p.T.held ++ d.at_ := fun d => by
    unfold Table.held; show (p.T.devices ++ [d]).flatMap _ = _; rw [List.flatMap_append]; simp
  obtain ⟨cc, hc1, hc2, _, hc4⟩ := co_known c1
  rw [hdrop]
  refine ⟨⟨?_, ?_, ?_, ?_, ?_, ?_, ?_, R.swn, R.swp, R.con, R.cop, ?_, ?_, R.b63, R.nms, ?_, R.kl⟩, ?_, rfl⟩
  · show (if (ifM DRAIN m.2.2).1 = true then p.drained + m.1 else p.drained) = _
    rw [room_snoc]
    show _ = p.T.room + if (ifM DRAIN m.2.2).1 = true then ((w.w :: ns).map (placeOf p)).length else 0
    rw [List.length_map, ← hm1, R.drained]
    split <;> omega
  · intro s hs
    show s.name ∈ m.2.1.held ↔ s.place ∈ Table.held _ ++ []
    rw [hheld, List.append_nil, hq]
    exact (heldR_many R.swn R.swp (fun s hs => place_name R hs) (w.w :: ns) R.held hall) s hs
  · intro c' hc'
    show c'.name ∈ m.2.1.serving ↔ _
    rw [hq]
    show c'.name ∈ p.serving ++ [c.1] ↔ ((p.T.devices ++ [_]).any _ = true ∨ _)
    have := R.serving c' hc'
    rw [List.mem_append, List.mem_singleton, this, List.any_append]
    have z := co_np R.con R.cop hc' hc1
    rw [hc2] at z
    simp only [List.any_cons, List.any_nil, Bool.or_false, Bool.or_eq_true, hc4, beq_iff_eq]
    rw [z]
    constructor
    · rintro ((h | h) | h)
      · exact .inl (.inl h)
      · exact .inr h
      · exact .inl (.inr h.symm)
    · rintro ((h | h) | h)
      · exact .inl (.inl h)
      · exact .inr h.symm
      · exact .inl (.inr h)
  · intro m'; show PT.past m.2.1 kSw m' = _; rw [hq]; exact R.rSw m'
  · intro m'; show PT.past m.2.1 kLa m' = _; rw [hq]; exact R.rLa m'
  · intro m'; show PT.past m.2.1 kCo m' = _; rw [hq]; exact R.rCo m'
  · intro m'; show PT.past m.2.1 kKi m' = _; rw [hq]; exact R.rKi m'
  · intro a ha
    have ha' : a ∈ m.2.1.held := ha
    rw [hq] at ha'
    rcases List.mem_append.mp ha' with z | z
    · exact R.hin a z
    · exact hall a z
  · intro a ha
    have ha' : a ∈ m.2.1.serving := ha
    rw [hq] at ha'
    rcases List.mem_append.mp ha' with z | z
    · exact R.sin a z
    · rw [List.mem_singleton] at z; subst z; exact c1
  · show (p.T.devices ++ [_]).length ≤ 8
    rw [List.length_append]; simp; omega
  · show _ + _ + _ + (p.T.devices ++ [_]).length + m.2.1.held.length + m.2.1.serving.length + m.2.1.reached.length ≤ _
    rw [hq, List.length_append]
    show _ + _ + _ + _ + (p.held ++ (w.w :: ns)).length + (p.serving ++ [c.1]).length + p.reached.length ≤ _
    rw [List.length_append, List.length_append]; simp only [List.length_cons, List.length_nil]; unfold PT.sz; omega
theorem kick_rep {e : Nat} {p : PT} (R : Rep p) {l : List Word} {x : PT × List Word} (h : kickM e p l = .ok x) (hl : p.T.kicks.length < 8) : Rep x.1 ∧ x.1.sz ≤ p.sz + 2 := by
  unfold kickM at h
  obtain ⟨s, h1, h⟩ := bind_ok h
  obtain ⟨p1, h2, h⟩ := bind_ok h
  obtain ⟨_, h3, h⟩ := bind_ok h
  obtain ⟨c, h4, h⟩ := bind_ok h
  obtain ⟨l5, h5, h⟩ := bind_ok h
  obtain ⟨t, h6, h⟩ := bind_ok h
  obtain ⟨_, h7, h⟩ := bind_ok h
  obtain ⟨u, h8, h⟩ := bind_ok h
  cases h
  unfold reachM at h2
  cases q1 : p.past kKi (placeOf p s.1.w) with
  | true => rw [q1] at h2; cases h2
  | false =>
    rw [q1] at h2
    cases h2
    obtain ⟨c1, c2, c3⟩ := freeM_ok h4
    have q := R.rKi (placeOf p s.1.w)
    rw [q1] at q
    have q' : ((p.T.kicks.map fun k => k.first).all fun m => decide (m < placeOf p s.1.w)) = true := by
      rw [List.all_map]
      simpa using q.symm
    obtain ⟨k1, k2, k3, k4, k5, k6, k7, k8, k9, k10, k11, k12⟩ := kne
    obtain ⟨cc, hc1, hc2, _, hc4⟩ := co_known (p := p) c1
    rw [c3]
    refine ⟨⟨R.drained, R.held, ?_, ?_, ?_, ?_, ?_, R.swn, R.swp, R.con, R.cop, R.hin, ?_, R.b63, R.nms, R.dl, ?_⟩, ?_⟩
    · intro c' hc'
      show c'.name ∈ p.serving ++ [c.1] ↔ (_ ∨ (p.T.kicks ++ [_]).any _ = true)
      have := R.serving c' hc'
      rw [List.mem_append, List.mem_singleton, this, List.any_append]
      have z := co_np R.con R.cop hc' hc1
      rw [hc2] at z
      simp only [List.any_cons, List.any_nil, Bool.or_false, Bool.or_eq_true, hc4, beq_iff_eq]
      rw [z, or_assoc, eq_comm (a := c'.place)]
    · intro m; exact (past_cons p kKi kSw _ m).trans (by rw [if_neg k10]; exact R.rSw m)
    · intro m; exact (past_cons p kKi kLa _ m).trans (by rw [if_neg k11]; exact R.rLa m)
    · intro m; exact (past_cons p kKi kCo _ m).trans (by rw [if_neg k12]; exact R.rCo m)
    · intro m
      refine (past_cons p kKi kKi _ m).trans ?_
      rw [if_pos rfl]
      have := all_snoc q' m
      rw [this]
      show _ = !(p.T.kicks ++ [_]).all _
      rw [List.all_append, List.all_append, List.all_map]
      rfl
    · intro a ha
      have ha' : a ∈ p.serving ++ [c.1] := ha
      rcases List.mem_append.mp ha' with z | z
      · exact R.sin a z
      · rw [List.mem_singleton] at z; subst z; exact c1
    · show (p.T.kicks ++ [_]).length ≤ 8
      rw [List.length_append]; simp; omega
    · show _ + _ + _ + _ + _ + (p.serving ++ [c.1]).length + (_ :: p.reached).length ≤ _
      rw [List.length_append]; simp only [List.length_cons, List.length_nil]; unfold PT.sz; omega
end Bt
end
section
set_option Elab.async false
set_option linter.all false
namespace Bt
open Tilt
structure Ord (y : Nat) (p : PT) : Prop where
  k : y < 5 → p.T.kicks = []
  d : y < 4 → p.T.devices = []
theorem sort_idx (w : Bytes) : (SORTS.findIdx? fun (n : String) => ascii n == w).getD 0 = sortOf w := by
  unfold sortOf SORTS
  by_cases h0 : w = ascii "table"
  · subst h0; decide
  · have e0 : (ascii "table" == w) = false := by simp; exact fun z => h0 z.symm
    by_cases h1 : w = kSw
    · subst h1; decide
    · have e1 : (ascii "switch" == w) = false := by simp; exact fun z => h1 z.symm
      by_cases h2 : w = kLa
      · subst h2; decide
      · have e2 : (ascii "lamp" == w) = false := by simp; exact fun z => h2 z.symm
        by_cases h3 : w = kCo
        · subst h3; decide
        · have e3 : (ascii "coil" == w) = false := by simp; exact fun z => h3 z.symm
          by_cases h4 : w = kDe
          · subst h4; decide
          · have e4 : (ascii "device" == w) = false := by simp; exact fun z => h4 z.symm
            by_cases h5 : w = kKi
            · subst h5; decide
            · have e5 : (ascii "kick" == w) = false := by simp; exact fun z => h5 z.symm
              simp [List.findIdx?_cons, e0, e1, e2, e3, e4, e5, h1, h2, h3, h4, h5]
theorem sortOf_le (w : Bytes) : sortOf w ≤ 5 := by
  unfold sortOf
  repeat' split
  all_goals omega
theorem sortM_ok {e : Nat} {p : PT} {y : Nat} {l : List Word} {s : Nat × List Word} (h : sortM e p y l = .ok s) : ∃ w r, l = w :: r ∧ s = (sortOf w.w, r) ∧ sortOf w.w ≠ 0 ∧ y ≤ sortOf w.w ∧ ¬ (sortOf w.w = 4 ∧ p.T.devices.length = 8) ∧ ¬ (sortOf w.w = 5 ∧ p.T.kicks.length = 8) := by
  cases l with
  | nil => cases h
  | cons w r =>
    simp only [sortM] at h
    split at h
    · cases h
    · rename_i q
      cases h
      exact ⟨w, r, rfl, rfl, fun z => q (.inl z), by have : ¬ sortOf w.w < y := fun z => q (.inr (.inl z))
                                                     omega, fun z => q (.inr (.inr (.inl z))), fun z => q (.inr (.inr (.inr z)))⟩
theorem line_eq {e y : Nat} {p : PT} (R : Rep p) (O : Ord y p) (ws : List Word) : lineIn (some ⟨y, p.T⟩) ⟨ws, e⟩ = (lineM e p y ws >>= fun z => .ok (some ⟨z.1, z.2.T⟩)) := by
  cases ws with
  | nil => rfl
  | cons w r =>
    have e1 : lineIn (some ⟨y, p.T⟩) ⟨w :: r, e⟩ = (if sortOf w.w = 0 ∨ sortOf w.w < y ∨ (sortOf w.w = 4 ∧ EIGHT ≤ p.T.devices.length) ∨ (sortOf w.w = 5 ∧ EIGHT ≤ p.T.kicks.length) then .error ⟨3, w.at_⟩ else
        ((if sortOf w.w = 1 then switchIn e p.T r else if sortOf w.w = 2 then lampIn e p.T r else if sortOf w.w = 3 then coilIn e p.T r else if sortOf w.w = 4 then deviceIn e p.T r else kickIn e p.T r) >>= fun T => .ok (some ⟨sortOf w.w, T⟩))) := by
      rw [← sort_idx]
      unfold lineIn
      show (if _ then _ else _) = _
      simp only []
      generalize ((SORTS.findIdx? fun (n : String) => ascii n == w.w).getD 0) = s
      by_cases c : s = 0 ∨ s < y ∨ (s = 4 ∧ EIGHT ≤ p.T.devices.length) ∨ (s = 5 ∧ EIGHT ≤ p.T.kicks.length)
      · rw [if_pos c, if_pos c]
      · rw [if_neg c, if_neg c]
        by_cases s1 : s = 1
        · rw [if_pos s1, if_pos s1]; rfl
        · rw [if_neg s1, if_neg s1]
          by_cases s2 : s = 2
          · rw [if_pos s2, if_pos s2]; rfl
          · rw [if_neg s2, if_neg s2]
            by_cases s3 : s = 3
            · rw [if_pos s3, if_pos s3]; rfl
            · rw [if_neg s3, if_neg s3]
              by_cases s4 : s = 4
              · rw [if_pos s4, if_pos s4]; rfl
              · rw [if_neg s4, if_neg s4]; rfl
    rw [e1]
    unfold lineM
    simp only [sortM]
    have hd : EIGHT ≤ p.T.devices.length ↔ p.T.devices.length = 8 := by have := R.dl; unfold EIGHT; omega
    have hk : EIGHT ≤ p.T.kicks.length ↔ p.T.kicks.length = 8 := by have := R.kl; unfold EIGHT; omega
    simp only [hd, hk]
    by_cases c : sortOf w.w = 0 ∨ sortOf w.w < y ∨ (sortOf w.w = 4 ∧ p.T.devices.length = 8) ∨ (sortOf w.w = 5 ∧ p.T.kicks.length = 8)
    · rw [if_pos c, if_pos c]; rfl
    · rw [if_neg c, if_neg c]
      show _ = ((restM e p (sortOf w.w) r >>= fun x => closed x.2 >>= fun _ => pure (sortOf w.w, x.1)) >>= _)
      simp only [asc]
      have hy : y ≤ sortOf w.w := by have : ¬ sortOf w.w < y := fun z => c (.inr (.inl z)); omega
      have hs := sortOf_le w.w
      have h0 : sortOf w.w ≠ 0 := fun z => c (.inl z)
      have fin : ∀ {x : F (PT × List Word)} {t : F Table}, t = (x >>= fun x => closed x.2 >>= fun _ => .ok x.1.T) →
          (t >>= fun T => (.ok (some ⟨sortOf w.w, T⟩) : F (Option Had))) = (x >>= fun x => closed x.2 >>= fun _ => pure (sortOf w.w, x.1) >>= fun z => .ok (some ⟨z.1, z.2.T⟩)) := by
        intro x t h; rw [h]; simp only [asc]; rfl
      unfold restM
      by_cases s1 : sortOf w.w = 1
      · rw [if_pos s1, if_pos s1]; exact fin (switch_eq R r)
      · rw [if_neg s1, if_neg s1]
        by_cases s2 : sortOf w.w = 2
        · rw [if_pos s2, if_pos s2]; exact fin (lamp_eq R r)
        · rw [if_neg s2, if_neg s2]
          by_cases s3 : sortOf w.w = 3
          · rw [if_pos s3, if_pos s3]; exact fin (coil_eq R r)
          · rw [if_neg s3, if_neg s3]
            by_cases s4 : sortOf w.w = 4
            · rw [if_pos s4, if_pos s4]; exact fin (device_eq R (O.k (by omega)) r)
            · rw [if_neg s4, if_neg s4]; exact fin (kick_eq R r)
theorem line_rep {e y : Nat} {p : PT} (R : Rep p) (O : Ord y p) {ws : List Word} {z : Nat × PT} (h : lineM e p y ws = .ok z) : Rep z.2 ∧ Ord z.1 z.2 ∧ z.2.sz ≤ p.sz + 10 := by
  unfold lineM at h
  obtain ⟨s, h1, h⟩ := bind_ok h
  obtain ⟨x, h2, h⟩ := bind_ok h
  obtain ⟨_, h3, h⟩ := bind_ok h
  cases h
  obtain ⟨w, r, rfl, rfl, s0, hy, q4, q5⟩ := sortM_ok h1
  have hs := sortOf_le w.w
  unfold restM at h2
  by_cases s1 : sortOf w.w = 1
  · rw [if_pos s1] at h2
    obtain ⟨a, b, c, d⟩ := switch_rep R h2 (O.d (by omega)) (O.k (by omega))
    exact ⟨a, ⟨fun _ => d, fun _ => c⟩, by show x.1.sz ≤ _; omega⟩
  · rw [if_neg s1] at h2
    by_cases s2 : sortOf w.w = 2
    · rw [if_pos s2] at h2
      obtain ⟨a, b, c, d⟩ := lamp_rep R h2
      exact ⟨a, ⟨fun _ => d.trans (O.k (by omega)), fun _ => c.trans (O.d (by omega))⟩, by show x.1.sz ≤ _; omega⟩
    · rw [if_neg s2] at h2
      by_cases s3 : sortOf w.w = 3
      · rw [if_pos s3] at h2
        obtain ⟨a, b, c, d⟩ := coil_rep R h2 (O.d (by omega)) (O.k (by omega))
        exact ⟨a, ⟨fun _ => d, fun _ => c⟩, by show x.1.sz ≤ _; omega⟩
      · rw [if_neg s3] at h2
        by_cases s4 : sortOf w.w = 4
        · rw [if_pos s4] at h2
          have : p.T.devices.length < 8 := by have := R.dl; have : p.T.devices.length ≠ 8 := fun z => q4 ⟨s4, z⟩; omega
          obtain ⟨a, b, c⟩ := device_rep R h2 this
          exact ⟨a, ⟨fun _ => c.trans (O.k (by omega)), fun z => by have z' : sortOf w.w < 4 := z; omega⟩, by show x.1.sz ≤ _; omega⟩
        · rw [if_neg s4] at h2
          have s5 : sortOf w.w = 5 := by omega
          have : p.T.kicks.length < 8 := by have := R.kl; have : p.T.kicks.length ≠ 8 := fun z => q5 ⟨s5, z⟩; omega
          obtain ⟨a, b⟩ := kick_rep R h2 this
          exact ⟨a, ⟨fun z => by have z' : sortOf w.w < 5 := z; omega, fun z => by have z' : sortOf w.w < 4 := z; omega⟩, by show x.1.sz ≤ _; omega⟩
theorem headM_ok {e : Nat} {l : List Word} {x : PT × List Word} (h : headM e PT.new l = .ok x) : ∃ n b, x.1 = { PT.new with T := { noTable with name := n, balls := b } } := by
  unfold headM at h
  obtain ⟨_, _, h⟩ := bind_ok h
  obtain ⟨y, _, h⟩ := bind_ok h
  obtain ⟨_, _, h⟩ := bind_ok h
  obtain ⟨b, _, h⟩ := bind_ok h
  cases h
  exact ⟨_, _, rfl⟩
theorem head_rep {e : Nat} {l : List Word} {x : PT × List Word} (h : headM e PT.new l = .ok x) (y : Nat) : Rep x.1 ∧ Ord y x.1 ∧ x.1.sz = 0 := by
  obtain ⟨n, b, hx⟩ := headM_ok h
  rw [hx]
  exact ⟨⟨rfl, (fun s hs => nomatch hs), (fun s hs => nomatch hs), fun _ => rfl, fun _ => rfl, fun _ => rfl, fun _ => rfl, List.nodup_nil, .nil, List.nodup_nil, .nil, (fun _ h => nomatch h), (fun _ h => nomatch h), (fun _ h => nomatch h), (fun _ h => nomatch h), Nat.zero_le _, Nat.zero_le _⟩, ⟨fun _ => rfl, fun _ => rfl⟩, rfl⟩
theorem head_line {e : Nat} (ws : List Word) : lineIn none ⟨ws, e⟩ = (headM e PT.new ws >>= fun x => closed x.2 >>= fun _ => .ok (some ⟨0, x.1.T⟩)) := by
  have e1 : lineIn none ⟨ws, e⟩ = ((next e ws >>= fun w => if w.1.w = ascii "table" then firstIn e w.2 else .error ⟨3, w.1.at_⟩) >>= fun T => .ok (some ⟨0, T⟩)) := by
    show (next e ws >>= _) = _
    rw [asc]
    refine bnd fun w _ => ?_
    show (if _ then _ else _) = _
    split
    · rfl
    · rfl
  rw [e1, head_eq]
  simp only [asc]
  rfl
def lineAt (b : Bytes) (p : Nat) : F (List Word × Nat) := match upTo (b.drop p) with
  | none => .error ⟨1, b.length⟩
  | some (l, _) => match badByte true 0 l with
    | some i => .error ⟨2, p + i⟩
    | none => .ok (wordsFrom p [] l, p + l.length)
theorem upTo_some : ∀ {b l r : Bytes}, upTo b = some (l, r) → b = l ++ 10 :: r ∧ 10 ∉ l
  | [], _, _, h => by cases h
  | c :: b, l, r, h => by
    simp only [upTo] at h
    split at h
    · rename_i e; cases h; subst e; exact ⟨rfl, by simp⟩
    · rename_i e
      cases q : upTo b with
      | none => rw [q] at h; cases h
      | some x =>
        rw [q] at h
        cases h
        obtain ⟨h1, h2⟩ := upTo_some (b := b) (l := x.1) (r := x.2) q
        exact ⟨by rw [h1]; rfl, by simp; exact ⟨fun z => e z.symm, h2⟩⟩
theorem upTo_at : ∀ {b : Bytes} {n : Nat}, (∀ k, k < n → b[k]? ≠ some 10) → b[n]? = some 10 → upTo b = some (b.take n, b.drop (n + 1))
  | [], n, _, h => by simp at h
  | c :: b, 0, _, h => by
    have : c = 10 := by simpa using h
    simp [upTo, this]
  | c :: b, n + 1, hk, h => by
    have h0 : c ≠ 10 := fun z => hk 0 (by omega) (by simp [z])
    have ih := upTo_at (b := b) (n := n) (fun k hk' => by have := hk (k + 1) (by omega); simpa using this) (by simpa using h)
    simp [upTo, h0, ih]
theorem upTo_none : ∀ {b : Bytes}, (∀ k, k < b.length → b[k]? ≠ some 10) → upTo b = none
  | [], _ => rfl
  | c :: b, hk => by
    have h0 : c ≠ 10 := fun z => hk 0 (by simp) (by simp [z])
    have ih := upTo_none (b := b) (fun k hk' => by have := hk (k + 1) (by simp; omega); simpa using this)
    simp [upTo, h0, ih]
def restOf (b : Bytes) : Nat → Nat → Nat → PT → F PT
  | 0, _, _, q => .ok q
  | k + 1, p, y, q => if p < b.length then (lineAt b p >>= fun x => lineM x.2 q y x.1 >>= fun z => restOf b k (x.2 + 1) z.1 z.2) else .ok q
def readM (b : Bytes) : F PT := lineAt b 0 >>= fun x => headM x.2 PT.new x.1 >>= fun z => closed z.2 >>= fun _ => restOf b b.length (x.2 + 1) 0 z.1 >>= fun q =>
  if q.drained < q.T.balls then .error ⟨8, b.length⟩ else .ok q
theorem lineAt_end {b : Bytes} {p : Nat} {x : List Word × Nat} (h : lineAt b p = .ok x) : p ≤ x.2 ∧ x.2 < b.length := by
  unfold lineAt at h
  split at h
  · cases h
  · rename_i l r q
    split at h
    · cases h
    · cases h
      obtain ⟨e, _⟩ := upTo_some q
      have := congrArg List.length e
      rw [List.length_drop, List.length_append, List.length_cons] at this
      show p ≤ p + l.length ∧ p + l.length < b.length
      omega
theorem lines_rest {b : Bytes} : ∀ (k p y : Nat) (q : PT) (j : Nat), Rep q → Ord y q → p ≤ b.length → b.length - p ≤ k → b.length - p < j → ∃ y' : PT → Nat, linesIn lineIn j p (some ⟨y, q.T⟩) (b.drop p) = (restOf b k p y q >>= fun z => .ok (some ⟨y' z, z.T⟩))
  | k, p, y, q, 0, R, O, hp, hk, hj => by omega
  | 0, p, y, q, j + 1, R, O, hp, hk, hj => by
    have e : b.drop p = [] := List.drop_eq_nil_of_le (by omega)
    exact ⟨fun _ => y, by rw [e]; rfl⟩
  | k + 1, p, y, q, j + 1, R, O, hp, hk, hj => by
    by_cases c : p < b.length
    · have ne : (b.drop p).isEmpty = false := by
        rw [List.isEmpty_eq_false_iff]
        intro z
        have := congrArg List.length z
        rw [List.length_drop] at this
        simp at this; omega
      unfold linesIn restOf
      rw [if_pos c, ne, if_neg (by decide)]
      unfold lineAt
      cases u : upTo (b.drop p) with
      | none =>
        refine ⟨fun _ => y, ?_⟩
        show Except.error _ = Except.error _
        rw [List.length_drop]; congr 2; omega
      | some lr =>
        obtain ⟨l, r⟩ := lr
        obtain ⟨e, _⟩ := upTo_some u
        have hlen := congrArg List.length e
        rw [List.length_drop, List.length_append, List.length_cons] at hlen
        simp only
        cases v : badByte true 0 l with
        | some i => exact ⟨fun _ => y, rfl⟩
        | none =>
          simp only
          rw [line_eq R O]
          show ∃ y' : PT → Nat, _ = ((lineM (p + l.length) q y (wordsFrom p [] l) >>= fun z => restOf b k (p + l.length + 1) z.1 z.2) >>= _)
          cases z : lineM (p + l.length) q y (wordsFrom p [] l) with
          | error f => exact ⟨fun _ => y, rfl⟩
          | ok w =>
            obtain ⟨R', O', _⟩ := line_rep R O z
            have hr : r = b.drop (p + l.length + 1) := by
              rw [Nat.add_assoc, ← List.drop_drop, e]
              rw [List.drop_append]; simp
            obtain ⟨y', h⟩ := lines_rest (b := b) k (p + l.length + 1) w.1 w.2 j R' O' (by omega) (by omega) (by omega)
            refine ⟨y', ?_⟩
            show linesIn lineIn j (p + l.length + 1) (some ⟨w.1, w.2.T⟩) r = _
            rw [hr, h]
            rfl
    · have e : b.drop p = [] := List.drop_eq_nil_of_le (by omega)
      refine ⟨fun _ => y, ?_⟩
      unfold restOf
      rw [e, if_neg c]; rfl
theorem rest_rep {b : Bytes} : ∀ (k p y : Nat) (q : PT), Rep q → Ord y q → ∀ {z : PT}, restOf b k p y q = .ok z → Rep z
  | 0, p, y, q, R, O, z, h => by cases h; exact R
  | k + 1, p, y, q, R, O, z, h => by
    unfold restOf at h
    split at h
    · obtain ⟨x, _, h⟩ := bind_ok h
      obtain ⟨w, hw, h⟩ := bind_ok h
      obtain ⟨R', O', _⟩ := line_rep R O hw
      exact rest_rep k _ _ _ R' O' h
    · cases h; exact R
theorem read_eq (b : Bytes) : readTable b = (readM b >>= fun q => .ok q.T) := by
  unfold readTable readM
  cases hb : b with
  | nil => rfl
  | cons c0 b0 =>
    rw [← hb]
    have ne : b.isEmpty = false := by rw [hb]; rfl
    have hz : linesIn lineIn (b.length + 1) 0 none b = linesIn lineIn (b.length + 1) 0 none (b.drop 0) := rfl
    rw [hz]
    unfold linesIn
    have ne2 : (b.drop 0).isEmpty = false := ne
    rw [ne2, if_neg (by decide)]
    unfold lineAt
    cases u : upTo (b.drop 0) with
    | none =>
      show Except.error _ = Except.error _
      rw [List.length_drop]; congr 2; omega
    | some lr =>
      obtain ⟨l, r⟩ := lr
      obtain ⟨e, _⟩ := upTo_some u
      have hlen := congrArg List.length e
      rw [List.length_drop, List.length_append, List.length_cons] at hlen
      simp only
      cases v : badByte true 0 l with
      | some i => rfl
      | none =>
        simp only
        rw [head_line]
        show _ = ((headM (0 + l.length) PT.new (wordsFrom 0 [] l) >>= _) >>= _)
        cases z : headM (0 + l.length) PT.new (wordsFrom 0 [] l) with
        | error f => rfl
        | ok w =>
          cases cl : closed w.2 with
          | error f => simp only [bind, Except.bind, cl]
          | ok _ =>
            obtain ⟨R', O', _⟩ := head_rep z 0
            have hr : r = b.drop (0 + l.length + 1) := by
              rw [Nat.add_assoc, ← List.drop_drop, e]
              rw [List.drop_append]; simp
            obtain ⟨y', h⟩ := lines_rest (b := b) b.length (0 + l.length + 1) 0 w.1 b.length R' O' (by omega) (by omega) (by omega)
            simp only [bind, Except.bind, cl]
            rw [hr, h]
            cases q : restOf b b.length (0 + l.length + 1) 0 w.1 with
            | error f => rfl
            | ok t =>
              have R2 := rest_rep _ _ _ _ R' O' q
              simp only [bind, Except.bind]
              rw [R2.drained]
              by_cases g : t.T.balls ≤ t.T.room
              · rw [if_pos g, if_neg (by omega)]
              · rw [if_neg g, if_pos (by omega)]
theorem readM_rep {b : Bytes} {q : PT} (h : readM b = .ok q) : Rep q := by
  unfold readM at h
  obtain ⟨x, _, h⟩ := bind_ok h
  obtain ⟨z, hz, h⟩ := bind_ok h
  obtain ⟨_, _, h⟩ := bind_ok h
  obtain ⟨t, ht, h⟩ := bind_ok h
  obtain ⟨R', O', _⟩ := head_rep hz 0
  split at h
  · cases h
  · cases h; exact rest_rep _ _ _ _ R' O' ht
end Bt
end
section
set_option Elab.async false
set_option linter.all false
namespace Bt
open Tilt
theorem sgn32 (c : UInt8) : sgn c = 32 ↔ c = 32 := by
  constructor
  · intro h
    unfold sgn at h
    split at h
    · assumption
    · split at h
      · rename_i q; exact absurd h (nm_ne32 q)
      · exact absurd h (by decide)
  · rintro rfl; rfl
def badAt (l : Bytes) (j : Nat) : Bool := match l[j]? with
  | none => false
  | some c => (decide (c < 32) || decide (126 < c)) || (c == 32 && (j == 0 || l[j - 1]? == some 32 || j + 1 == l.length))
theorem bad_find : ∀ (r pre : Bytes) (g : Bool), g = (pre.isEmpty || pre.getLast? == some 32) → (g = true → pre ≠ [] → r ≠ []) →
    badByte g pre.length r = (List.range' pre.length r.length).find? (badAt (pre ++ r))
  | [], pre, g, hg, hr => by
    unfold badByte
    cases g with
    | false => rfl
    | true =>
      cases pre with
      | nil => rfl
      | cons a b => exact absurd rfl (hr rfl (by simp))
  | c :: r, pre, g, hg, hr => by
    rw [List.length_cons, List.range'_succ, List.find?_cons]
    have hat : (pre ++ c :: r)[pre.length]? = some c := by simp
    have hpre : (pre.length == 0 || (pre ++ c :: r)[pre.length - 1]? == some 32) = g := by
      rw [hg]
      cases pre with
      | nil => rfl
      | cons a b =>
        have : (a :: b ++ c :: r)[(a :: b).length - 1]? = (a :: b).getLast? := by
          rw [List.getElem?_append_left (by simp), List.getLast?_eq_getElem?]
        rw [this]; rfl
    have hb : badAt (pre ++ c :: r) pre.length = ((decide (c < 32) || decide (126 < c)) || (c == 32 && (g || r.isEmpty))) := by
      unfold badAt
      rw [hat]
      simp only [hpre]
      have : (pre.length + 1 == (pre ++ c :: r).length) = r.isEmpty := by
        cases r with
        | nil => simp
        | cons a b => simp
      rw [this]
    have ih : ∀ (g' : Bool), g' = (c == 32) → (g' = true → r ≠ []) → badByte g' (pre.length + 1) r = (List.range' (pre.length + 1) r.length).find? (badAt (pre ++ c :: r)) := fun g' h1 h2 => by
      have := bad_find r (pre ++ [c]) g' (by rw [h1]; simp) (fun z _ => h2 z)
      rw [List.append_assoc, List.singleton_append, List.length_append, List.length_singleton] at this
      exact this
    rw [hb]
    unfold badByte
    by_cases h1 : c < 32 ∨ 126 < c
    · rw [if_pos h1]
      have : (decide (c < 32) || decide (126 < c)) = true := by simpa using h1
      rw [this]; rfl
    · rw [if_neg h1]
      have : (decide (c < 32) || decide (126 < c)) = false := by simpa using h1
      rw [this, Bool.false_or]
      by_cases h2 : c = 32
      · rw [if_pos h2]
        have e2 : (c == 32) = true := by simpa using h2
        rw [e2, Bool.true_and]
        cases g with
        | true => rfl
        | false =>
          cases q : r.isEmpty with
          | true => rfl
          | false =>
            rw [if_neg (by decide), if_neg (by decide)]
            exact ih true e2.symm (fun _ z => by rw [z] at q; cases q)
      · rw [if_neg h2]
        have e2 : (c == 32) = false := by simpa using h2
        rw [e2, Bool.false_and]
        exact ih false e2.symm (fun z => nomatch z)
theorem bad_eq (l : Bytes) : badByte true 0 l = (List.range' 0 l.length).find? (badAt l) := bad_find l [] true rfl fun _ h => absurd rfl h
theorem bad_first {l : Bytes} {i : Nat} (hi : i < l.length) (h : badAt l i = true) (hb : ∀ k, k < i → badAt l k = false) : badByte true 0 l = some i := by
  rw [bad_eq, List.find?_range'_eq_some]
  exact ⟨h, by simp; exact hi, fun j hj hji => by simp [hb j hji]⟩
theorem bad_none {l : Bytes} (hb : ∀ k, k < l.length → badAt l k = false) : badByte true 0 l = none := by
  rw [bad_eq, List.find?_range'_eq_none]
  intro j h1 h2
  simp [hb j (by omega)]
def stepL (st : List (List Nat) × List Nat) (c : Nat) : List (List Nat) × List Nat := if c = 32 then (if st.2 = [] then st else (st.1 ++ [st.2], [])) else (st.1, st.2 ++ [c])
def finL (st : List (List Nat) × List Nat) : List (List Nat) := if st.2 = [] then st.1 else st.1 ++ [st.2]
theorem words_fold : ∀ (r w : Bytes) (p q : Nat) (acc : List (List Nat)), badByte w.isEmpty q r = none → finL ((r.map sgn).foldl stepL (acc, cod w)) = acc ++ (wordsFrom p w r).map fun x => cod x.w
  | [], w, p, q, acc, h => by
    show finL (acc, cod w) = acc ++ (if w.isEmpty = true then [] else [(⟨w, p - w.length⟩ : Word)]).map fun x => cod x.w
    unfold finL
    cases w with
    | nil => simp [cod]
    | cons a b => simp [cod]
  | c :: r, w, p, q, acc, h => by
    rw [List.map_cons, List.foldl_cons]
    unfold badByte at h
    split at h
    · cases h
    · by_cases h2 : c = 32
      · rw [if_pos h2] at h
        cases w with
        | nil => cases h
        | cons a b =>
          simp only [List.isEmpty_cons, Bool.false_eq_true, if_false] at h
          split at h
          · cases h
          · have e : stepL (acc, cod (a :: b)) (sgn c) = (acc ++ [cod (a :: b)], cod []) := by
              unfold stepL
              rw [(sgn32 c).mpr h2, if_pos rfl, if_neg (by simp [cod])]; rfl
            rw [e, words_fold r [] (p + 1) (q + 1) _ h]
            rw [wordsFrom.eq_2 p (a :: b) c r, if_pos h2, List.map_cons, List.append_assoc]
            rfl
      · rw [if_neg h2] at h
        have e : stepL (acc, cod w) (sgn c) = (acc, cod (w ++ [c])) := by
          unfold stepL
          rw [if_neg (fun z => h2 ((sgn32 c).mp z))]
          simp [cod]
        have hw : (w ++ [c]).isEmpty = false := by cases w <;> rfl
        rw [e, words_fold r (w ++ [c]) (p + 1) (q + 1) acc (by rw [hw]; exact h)]
        rw [wordsFrom.eq_2, if_neg h2]
theorem words_cod {l : Bytes} (p : Nat) (h : badByte true 0 l = none) : finL ((l.map sgn).foldl stepL ([], [])) = (wordsFrom p [] l).map fun x => cod x.w := by
  have := words_fold l [] p 0 [] h
  simpa [cod] using this
def placesF : Bool → Nat → Bytes → List Nat
  | _, _, [] => []
  | f, p, c :: r => (if f = true then [p] else []) ++ placesF (c == 32) (p + 1) r
theorem places_words : ∀ (r w : Bytes) (p q : Nat), badByte w.isEmpty q r = none → w.length ≤ p → (wordsFrom p w r).map (fun x => x.at_) = (if w.isEmpty = true then [] else [p - w.length]) ++ placesF w.isEmpty p r
  | [], w, p, q, h, hp => by
    cases w <;> simp [wordsFrom, placesF]
  | c :: r, w, p, q, h, hp => by
    unfold badByte at h
    split at h
    · cases h
    · by_cases h2 : c = 32
      · rw [if_pos h2] at h
        cases w with
        | nil => cases h
        | cons a b =>
          simp only [List.isEmpty_cons, Bool.false_eq_true, if_false] at h
          split at h
          · cases h
          · rw [wordsFrom.eq_2, if_pos h2, List.map_cons, places_words r [] (p + 1) (q + 1) h (by simp)]
            have : (c == 32) = true := by simpa using h2
            simp [placesF, this]
      · rw [if_neg h2] at h
        have hw : (w ++ [c]).isEmpty = false := by cases w <;> rfl
        rw [wordsFrom.eq_2, if_neg h2, places_words r (w ++ [c]) (p + 1) (q + 1) (by rw [hw]; exact h) (by simp; omega), hw]
        have : (c == 32) = false := by simpa using h2
        cases w with
        | nil => simp [placesF, this]
        | cons a b => simp [placesF, this]
theorem places_line {l : Bytes} (p : Nat) (h : badByte true 0 l = none) : (wordsFrom p [] l).map (fun x => x.at_) = placesF true p l := by
  have := places_words l [] p 0 h (by simp)
  simpa using this
theorem places_snoc : ∀ (l : Bytes) (f : Bool) (p : Nat) (c : UInt8), placesF f p (l ++ [c]) = placesF f p l ++ (if (match l.getLast? with | none => f | some d => d == 32) = true then [p + l.length] else [])
  | [], f, p, c => by cases f <;> rfl
  | d :: l, f, p, c => by
    rw [List.cons_append, placesF, places_snoc l (d == 32) (p + 1) c, placesF]
    cases l with
    | nil => simp
    | cons a b =>
      rw [List.getLast?_cons_cons]
      obtain ⟨z, hz⟩ : ∃ z, (a :: b).getLast? = some z := ⟨_, List.getLast?_eq_some_getLast (by simp)⟩
      rw [hz]
      simp only [List.append_assoc, List.length_cons]
      congr 2
      rw [show p + 1 + (b.length + 1) = p + (b.length + 1 + 1) by omega]
theorem words_ne : ∀ (r w : Bytes) (p q : Nat), badByte w.isEmpty q r = none → ∀ x ∈ wordsFrom p w r, x.w ≠ []
  | [], w, p, q, h, x, hx => by
    cases w with
    | nil => simp [wordsFrom] at hx
    | cons a b => simp [wordsFrom] at hx; rw [hx]; simp
  | c :: r, w, p, q, h, x, hx => by
    unfold badByte at h
    split at h
    · cases h
    · by_cases h2 : c = 32
      · rw [if_pos h2] at h
        cases w with
        | nil => cases h
        | cons a b =>
          simp only [List.isEmpty_cons, Bool.false_eq_true, if_false] at h
          split at h
          · cases h
          · rw [wordsFrom.eq_2, if_pos h2] at hx
            rcases List.mem_cons.mp hx with rfl | hx
            · simp
            · exact words_ne r [] (p + 1) (q + 1) h x hx
      · rw [if_neg h2] at h
        have hw : (w ++ [c]).isEmpty = false := by cases w <;> rfl
        rw [wordsFrom.eq_2, if_neg h2] at hx
        exact words_ne r (w ++ [c]) (p + 1) (q + 1) (by rw [hw]; exact h) x hx
theorem wlen : ∀ (r w : Bytes) (p : Nat), ∀ x ∈ wordsFrom p w r, x.w.length ≤ w.length + r.length
  | [], w, p, x, hx => by
    unfold wordsFrom at hx
    split at hx
    · cases hx
    · simp at hx; rw [hx]; simp
  | c :: r, w, p, x, hx => by
    rw [wordsFrom.eq_2] at hx
    split at hx
    · rcases List.mem_cons.mp hx with rfl | hx
      · simp
      · have := wlen r [] (p + 1) x hx; simp at this ⊢; omega
    · have := wlen r (w ++ [c]) (p + 1) x hx; simp at this ⊢; omega
end Bt
end
section
set_option Elab.async false
set_option linter.all false
namespace Bt
open Tilt
def turn (s : Switch) (x : Seen) (row : Nat) : Seen × Bool := s.sample x (s.reads (row.testBit (s.place % 8)))
def evOf (s : Switch) (x : Seen) : Nat := if x.closed = true then s.place else 64 + s.place
structure Good (T : Table) : Prop where
  swp : T.switches.Pairwise fun a b => a.place < b.place
  b63 : ∀ s ∈ T.switches, s.place ≤ 63 ∧ 1 ≤ s.close ∧ 1 ≤ s.open_
theorem Rep.good {p : PT} (R : Rep p) : Good p.T := ⟨R.swp, R.b63⟩
theorem switchAt_mem {T : Table} (G : Good T) {s : Switch} (hs : s ∈ T.switches) : T.switchAt s.place = some s := by
  unfold Table.switchAt
  cases q : T.switches.find? fun z => z.place == s.place with
  | none =>
    rw [List.find?_eq_none] at q
    exact absurd (by simp) (q s hs)
  | some z =>
    have h1 := List.find?_some q
    have h2 := List.mem_of_find?_eq_some q
    congr 1
    exact pw_inj (f := fun s : Switch => s.place) G.swp z h2 s hs (by simpa using h1)
theorem switchAt_some {T : Table} {q : Nat} {s : Switch} (h : T.switchAt q = some s) : s ∈ T.switches ∧ s.place = q := by
  unfold Table.switchAt at h
  exact ⟨List.mem_of_find?_eq_some h, by have := List.find?_some h; simpa using this⟩
def seenOf (x : Scan) (s : Switch) : Seen := x.get s.place
def inCol (c : Nat) (s : Switch) : Bool := s.place / 8 == c
theorem after_in {T : Table} (G : Good T) (x : Scan) (row : Nat) {s : Switch} (hs : s ∈ T.switches) (hc : inCol (x.tick % 8) s = true) :
    T.after x row s.place = ((turn s (seenOf x s) row).1, if (turn s (seenOf x s) row).2 = true then some (evOf s (turn s (seenOf x s) row).1) else none) := by
  unfold Table.after Table.shown
  have hc' : s.place / 8 = x.tick % 8 := by simpa [inCol] using hc
  rw [switchAt_mem G hs, if_pos hc']
  simp only [Option.map_some]
  show (_, _) = (_, _)
  congr 1
  unfold turn seenOf evOf Switch.sample
  by_cases c1 : s.reads (row.testBit (s.place % 8)) = (x.get s.place).closed
  · rw [if_pos c1]; rfl
  · rw [if_neg c1]
    by_cases c2 : s.wants (x.get s.place).closed ≤ (x.get s.place).seen + 1
    · rw [if_pos c2]
    · rw [if_neg c2]; rfl
theorem after_out {T : Table} (x : Scan) (row q : Nat) (h : ¬ ∃ s ∈ T.switches, s.place = q ∧ inCol (x.tick % 8) s = true) : T.after x row q = (x.get q, none) := by
  unfold Table.after Table.shown
  cases e : T.switchAt q with
  | none => rfl
  | some s =>
    obtain ⟨h1, h2⟩ := switchAt_some e
    by_cases c : q / 8 = x.tick % 8
    · exact absurd ⟨s, h1, h2, by simp [inCol, h2, c]⟩ h
    · rw [if_neg c]
theorem row_get {T : Table} (x : Scan) (row q : Nat) (hq : q < 64) : (T.row x row).1.get q = (T.after x row q).1 := by
  unfold Table.row Scan.get PLACES
  simp only
  rw [List.getD_eq_getElem?_getD, List.getElem?_map, List.getElem?_map, List.getElem?_range hq]
  rfl
theorem row_in {T : Table} (G : Good T) (x : Scan) (row : Nat) {s : Switch} (hs : s ∈ T.switches) (hc : inCol (x.tick % 8) s = true) : seenOf (T.row x row).1 s = (turn s (seenOf x s) row).1 := by
  unfold seenOf
  rw [row_get x row s.place (by have := (G.b63 s hs).1; omega), after_in G x row hs hc]
  rfl
theorem row_out {T : Table} (G : Good T) (x : Scan) (row : Nat) {s : Switch} (hs : s ∈ T.switches) (hc : inCol (x.tick % 8) s = false) : seenOf (T.row x row).1 s = seenOf x s := by
  unfold seenOf
  rw [row_get x row s.place (by have := (G.b63 s hs).1; omega), after_out x row s.place]
  rintro ⟨s', h1, h2, h3⟩
  have : s' = s := pw_inj (f := fun s : Switch => s.place) G.swp s' h1 s hs h2
  subst this; rw [hc] at h3; cases h3
theorem range_pick {f : Nat → Option Nat} : ∀ (n : Nat) (L : List Nat), L.Pairwise (fun a b => a < b) → (∀ a ∈ L, a < n) → (∀ q, q < n → q ∉ L → f q = none) → (List.range n).filterMap f = L.filterMap f
  | 0, L, h1, h2, h3 => by
    cases L with
    | nil => rfl
    | cons a r => exact absurd (h2 a (by simp)) (by omega)
  | n + 1, L, h1, h2, h3 => by
    rw [List.range_succ, List.filterMap_append]
    by_cases c : n ∈ L
    · -- the last one
      have key : ∃ L', L = L' ++ [n] := by
        cases hl : L.getLast? with
        | none => rw [List.getLast?_eq_none_iff] at hl; rw [hl] at c; cases c
        | some z =>
          obtain ⟨L', e⟩ := List.getLast?_eq_some_iff.mp hl
          refine ⟨L', ?_⟩
          rw [e] at h1 h2 c ⊢
          have hz : z < n + 1 := h2 z (by simp)
          rcases List.mem_append.mp c with c | c
          · have := (List.pairwise_append.mp h1).2.2 n c z (by simp); omega
          · rw [List.mem_singleton] at c; rw [c]
      obtain ⟨L', e⟩ := key
      subst e
      rw [List.filterMap_append]
      congr 1
      obtain ⟨g1, _, g3⟩ := List.pairwise_append.mp h1
      refine range_pick n L' g1 (fun a ha => ?_) fun q hq hqL => h3 q (by omega) ?_
      · exact g3 a ha n (by simp)
      · intro z
        rcases List.mem_append.mp z with z | z
        · exact hqL z
        · rw [List.mem_singleton] at z; omega
    · rw [range_pick n L h1 (fun a ha => by
        have := h2 a ha
        have : a ≠ n := fun z => c (z ▸ ha)
        omega) fun q hq hqL => h3 q (by omega) hqL]
      simp [h3 n (by omega) c]
def rowEv (x : Scan) (row : Nat) (ss : List Switch) : List Nat := ss.filterMap fun s => if (turn s (seenOf x s) row).2 = true then some (evOf s (turn s (seenOf x s) row).1) else none
theorem row_events {T : Table} (G : Good T) (x : Scan) (row : Nat) : (T.row x row).2 = rowEv x row (T.switches.filter (inCol (x.tick % 8))) := by
  unfold Table.row PLACES
  simp only [List.filterMap_map]
  have h : (List.range 64).filterMap ((fun z : Seen × Option Nat => z.2) ∘ T.after x row) = ((T.switches.filter (inCol (x.tick % 8))).map fun s => s.place).filterMap ((fun z : Seen × Option Nat => z.2) ∘ T.after x row) := by
    refine range_pick 64 _ ?_ ?_ ?_
    · rw [List.pairwise_map]
      exact List.Pairwise.sublist List.filter_sublist G.swp
    · intro a ha
      obtain ⟨s, hs, e⟩ := List.mem_map.mp ha
      have := (G.b63 s (List.mem_filter.mp hs).1).1
      omega
    · intro q hq hn
      show (T.after x row q).2 = none
      rw [after_out]
      rintro ⟨s, h1, h2, h3⟩
      exact hn (List.mem_map.mpr ⟨s, List.mem_filter.mpr ⟨h1, h3⟩, h2⟩)
  rw [h, List.filterMap_map]
  unfold rowEv
  have key : ∀ l : List Switch, (∀ s ∈ l, s ∈ T.switches ∧ inCol (x.tick % 8) s = true) → l.filterMap (((fun z : Seen × Option Nat => z.2) ∘ T.after x row) ∘ fun s => s.place) = l.filterMap fun s => if (turn s (seenOf x s) row).2 = true then some (evOf s (turn s (seenOf x s) row).1) else none := by
    intro l
    induction l with
    | nil => intro _; rfl
    | cons s r ih =>
      intro hl
      have e : (((fun z : Seen × Option Nat => z.2) ∘ T.after x row) ∘ fun s : Switch => s.place) s = if (turn s (seenOf x s) row).2 = true then some (evOf s (turn s (seenOf x s) row).1) else none := by
        show (T.after x row s.place).2 = _
        rw [after_in G x row (hl s (by simp)).1 (hl s (by simp)).2]
      rw [List.filterMap_cons, List.filterMap_cons, e, ih fun z hz => hl z (by simp [hz])]
  exact key _ fun s hs => List.mem_filter.mp hs
def Low (T : Table) (x : Scan) : Prop := ∀ s ∈ T.switches, (seenOf x s).seen < s.wants (seenOf x s).closed
theorem wants_pos {T : Table} (G : Good T) {s : Switch} (hs : s ∈ T.switches) (c : Bool) : 1 ≤ s.wants c := by
  unfold Switch.wants
  have := G.b63 s hs
  split <;> omega
theorem turn_low {T : Table} (G : Good T) {s : Switch} (hs : s ∈ T.switches) (x : Seen) (h : x.seen < s.wants x.closed) (row : Nat) : (turn s x row).1.seen < s.wants (turn s x row).1.closed := by
  unfold turn Switch.sample
  have w := wants_pos G hs
  split
  · exact w _
  · split
    · exact w _
    · show x.seen + 1 < s.wants x.closed
      omega
theorem Low.begun {T : Table} (G : Good T) : Low T begun := by
  intro s hs
  have e : seenOf Tilt.begun s = ⟨false, 0⟩ := by
    unfold seenOf Scan.get Tilt.begun
    have := (G.b63 s hs).1
    simp only [List.getD_eq_getElem?_getD, List.getElem?_replicate]
    split <;> rfl
  rw [e]
  exact wants_pos G hs _
theorem Low.row {T : Table} (G : Good T) {x : Scan} (h : Low T x) (row : Nat) : Low T (T.row x row).1 := by
  intro s hs
  cases c : inCol (x.tick % 8) s with
  | true => rw [row_in G x row hs c]; exact turn_low G hs _ (h s hs) row
  | false => rw [row_out G x row hs c]; exact h s hs
theorem begun_seen {T : Table} (G : Good T) {s : Switch} (hs : s ∈ T.switches) : seenOf begun s = ⟨false, 0⟩ := by
  unfold seenOf Scan.get Tilt.begun
  simp only [List.getD_eq_getElem?_getD, List.getElem?_replicate]
  split <;> rfl
def flatEv (l : List (Nat × Nat)) : List Nat := l.flatMap fun z => [z.1, z.2]
theorem flat_append (a b : List (Nat × Nat)) : flatEv (a ++ b) = flatEv a ++ flatEv b := by unfold flatEv; exact List.flatMap_append
theorem flat_len (a : List (Nat × Nat)) : (flatEv a).length = 2 * a.length := by
  induction a with
  | nil => rfl
  | cons z r ih => show ([z.1, z.2] ++ flatEv r).length = _; rw [List.length_append, ih]; simp; omega
theorem rows_snoc {T : Table} : ∀ (l : List Nat) (i : Nat) (x : Scan) (r : Nat), T.rowsFrom i x (l ++ [r]) = ((T.row (T.rowsFrom i x l).1 r).1, (T.rowsFrom i x l).2 ++ (T.row (T.rowsFrom i x l).1 r).2.map fun e => (i + l.length, e))
  | [], i, x, r => by simp [Table.rowsFrom]
  | a :: l, i, x, r => by
    rw [List.cons_append, Table.rowsFrom.eq_2, rows_snoc l (i + 1) (T.row x a).1 r, Table.rowsFrom.eq_2]
    simp only [List.length_cons, List.append_assoc]
    congr 2
    rw [show i + 1 + l.length = i + (l.length + 1) by omega]
theorem rows_low {T : Table} (G : Good T) : ∀ (l : List Nat) (i : Nat) (x : Scan), Low T x → Low T (T.rowsFrom i x l).1
  | [], i, x, h => h
  | a :: l, i, x, h => by
    rw [Table.rowsFrom.eq_2]
    exact rows_low G l (i + 1) _ (h.row G a)
theorem soon_eq {T : Table} (G : Good T) {x : Scan} (h : Low T x) {s : Switch} (hs : s ∈ T.switches) : T.soon x s.place = some (((s.place / 8 : Int) - x.tick).emod 8 + 1 + 8 * ((s.wants (seenOf x s).closed : Int) - (seenOf x s).seen - 1)).toNat ∧
    ((((s.place / 8 : Int) - x.tick).emod 8 + 1 + 8 * ((s.wants (seenOf x s).closed : Int) - (seenOf x s).seen - 1)).toNat : Int) = (((s.place / 8 : Int) - x.tick).emod 8 + 1 + 8 * ((s.wants (seenOf x s).closed : Int) - (seenOf x s).seen - 1)) := by
  have hl := h s hs
  have hb := (G.b63 s hs).1
  unfold Table.soon
  rw [switchAt_mem G hs]
  simp only [Option.map_some]
  have e : x.get s.place = seenOf x s := rfl
  rw [e]
  generalize s.wants (seenOf x s).closed = W at *
  generalize (seenOf x s).seen = S at *
  have h0 : (0 : Int) ≤ ((s.place / 8 : Int) - x.tick).emod 8 := Int.emod_nonneg _ (by decide)
  have h8 : ((s.place / 8 : Int) - x.tick).emod 8 < 8 := Int.emod_lt_of_pos _ (by decide)
  have hm : (((s.place / 8 + 8 - x.tick % 8) % 8 : Nat) : Int) = ((s.place / 8 : Int) - x.tick).emod 8 := by
    show _ = ((s.place / 8 : Int) - x.tick) % 8
    omega
  refine ⟨?_, by omega⟩
  congr 1
  omega
end Bt
end
section
set_option Elab.async false
set_option linter.all false
namespace Bt
open Tilt
theorem whole_id (c : List (List Int)) : PyWqaqbz.whole c = c := by
  unfold PyWqaqbz.whole
  split <;> rfl
theorem calls_eq (l : List Int) : PyWqaqbz.calls l = PyFlat.calls PyWqaqbz.shape l.length l := by
  unfold PyWqaqbz.calls
  cases PyFlat.calls PyWqaqbz.shape l.length l with
  | none => rfl
  | some cs =>
    show some (cs.map PyWqaqbz.whole) = some cs
    congr 1
    induction cs with
    | nil => rfl
    | cons c r ih => rw [List.map_cons, whole_id, ih]
def lenOf : List Int → Nat
  | [] => 0
  | a :: r => if a = 5 then 1 else if a = 3 ∨ a = 4 then 2 else 2 + (r.headD 0).toNat
inductive One : List Int → List (List Int) → Prop
  | begin_ (t : List Int) : (t.all fun z => ScanNeutral.natural z 8) = true → One (1 :: (t.length : Int) :: t) [[1], t]
  | rows (t : List Int) : (t.all fun z => ScanNeutral.natural z 8) = true → One (2 :: (t.length : Int) :: t) [[2], t]
  | soon (p : Int) : 0 ≤ p → One [3, p] [[3, p]]
  | stands (p : Int) : 0 ≤ p → One [4, p] [[4, p]]
  | tick : One [5] [[5]]
theorem row_one {r x s : List Int} (h : PyFlat.row r = some (x, s)) : r = (x.length : Int) :: x ++ s := by
  cases r with
  | nil => cases h
  | cons n r =>
    simp only [PyFlat.row] at h
    split at h
    · rename_i q
      cases h
      have : (r.take n.toNat).length = n.toNat := by rw [List.length_take]; omega
      rw [this]
      show n :: r = ((n.toNat : Int)) :: (r.take n.toNat ++ r.drop n.toNat)
      rw [List.take_append_drop, Int.toNat_of_nonneg q.1]
    · cases h
theorem one_call {f : Nat} {a : Int} {r : List Int} {cs : List (List (List Int))} (h : PyFlat.calls PyWqaqbz.shape (f + 1) (a :: r) = some cs) (hq : cs.all ScanNeutral.asked1 = true) :
    ∃ c t cs', cs = c :: cs' ∧ PyFlat.calls PyWqaqbz.shape f t = some cs' ∧ cs'.all ScanNeutral.asked1 = true ∧ ∃ d, One d c ∧ a :: r = d ++ t ∧ lenOf (a :: r) = d.length ∧ 1 ≤ d.length := by
  simp only [PyFlat.calls] at h
  cases q : PyFlat.call PyWqaqbz.shape (a :: r) with
  | none => rw [q] at h; cases h
  | some ct =>
    obtain ⟨c, t⟩ := ct
    rw [q] at h
    simp only at h
    cases q2 : PyFlat.calls PyWqaqbz.shape f t with
    | none => rw [q2] at h; cases h
    | some cs' =>
      rw [q2] at h
      cases h
      rw [List.all_cons, Bool.and_eq_true] at hq
      refine ⟨c, t, cs', rfl, q2, hq.2, ?_⟩
      have hc := hq.1
      simp only [PyFlat.call] at q
      unfold PyWqaqbz.shape at q
      by_cases a1 : a = 1
      · subst a1
        simp only [if_true, PyFlat.rows] at q
        rw [if_neg (by omega), List.drop_zero] at q
        cases z : PyFlat.row r with
        | none => rw [z] at q; cases q
        | some xs =>
          obtain ⟨x, s⟩ := xs
          rw [z] at q
          cases q
          have e := row_one z
          refine ⟨_, One.begin_ x hc, by rw [e]; rfl, ?_, by simp⟩
          rw [e]; simp [lenOf]; omega
      · by_cases a2 : a = 2
        · subst a2
          simp only [show ¬ (2 : Int) = 1 by decide, if_false, if_true, PyFlat.rows] at q
          rw [if_neg (by omega), List.drop_zero] at q
          cases z : PyFlat.row r with
          | none => rw [z] at q; cases q
          | some xs =>
            obtain ⟨x, s⟩ := xs
            rw [z] at q
            cases q
            have e := row_one z
            refine ⟨_, One.rows x hc, by rw [e]; rfl, ?_, by simp⟩
            rw [e]; simp [lenOf]; omega
        · by_cases a3 : a = 3
          · subst a3
            simp only [show ¬ (3 : Int) = 1 by decide, show ¬ (3 : Int) = 2 by decide, if_false, if_true, PyFlat.rows] at q
            cases r with
            | nil => simp at q
            | cons p r =>
              rw [if_neg (by simp)] at q
              cases q
              have hp : 0 ≤ p := by
                simp [ScanNeutral.asked1, ScanNeutral.whole32] at hc; exact hc.1
              exact ⟨_, One.soon p hp, rfl, rfl, by simp⟩
          · by_cases a4 : a = 4
            · subst a4
              simp only [show ¬ (4 : Int) = 1 by decide, show ¬ (4 : Int) = 2 by decide, show ¬ (4 : Int) = 3 by decide, if_false, if_true, PyFlat.rows] at q
              cases r with
              | nil => simp at q
              | cons p r =>
                rw [if_neg (by simp)] at q
                cases q
                have hp : 0 ≤ p := by
                  simp [ScanNeutral.asked1, ScanNeutral.whole32] at hc; exact hc.1
                exact ⟨_, One.stands p hp, rfl, rfl, by simp⟩
            · by_cases a5 : a = 5
              · subst a5
                simp only [show ¬ (5 : Int) = 1 by decide, show ¬ (5 : Int) = 2 by decide, show ¬ (5 : Int) = 3 by decide, show ¬ (5 : Int) = 4 by decide, if_false, if_true, PyFlat.rows] at q
                rw [if_neg (by omega)] at q
                cases q
                exact ⟨_, One.tick, rfl, rfl, by simp⟩
              · simp [a1, a2, a3, a4, a5] at q
abbrev State := Option (Table × Scan)
theorem told_cons (a : List Int) (l : List (List Int)) : PyFlat.told (a :: l) = (a.length : Int) :: a ++ PyFlat.told l := by
  unfold PyFlat.told; rw [List.flatMap_cons]
theorem text_nat {t : List Int} (h : (t.all fun z => ScanNeutral.natural z 8) = true) : t = (ScanNeutral.text t).map fun c => (c.toNat : Int) := by
  unfold ScanNeutral.text ScanNeutral.nats
  rw [List.map_map, List.map_map]
  induction t with
  | nil => rfl
  | cons a r ih =>
    rw [List.all_cons, Bool.and_eq_true] at h
    rw [List.map_cons, ← ih h.2]
    congr 1
    have ha := h.1
    unfold ScanNeutral.natural at ha
    simp only [Bool.and_eq_true, decide_eq_true_eq] at ha
    show a = ((UInt8.ofNat a.toNat).toNat : Int)
    rw [UInt8.toNat_ofNat']
    have h1 := ha.1
    have h2 : a < 256 := ha.2
    have : a.toNat % 2 ^ 8 = a.toNat := Nat.mod_eq_of_lt (by show a.toNat < 256; omega)
    rw [this]; omega
theorem text_len (t : List Int) : (ScanNeutral.text t).length = t.length := by
  unfold ScanNeutral.text ScanNeutral.nats; simp
end Bt
end
section
set_option Elab.async false
set_option linter.all false
namespace Bt
open Tilt
def refu (b : Bool) (k q : Nat) : F Unit := if b = true then .error ⟨k, q⟩ else .ok ()
theorem refu_dec {p : Prop} [Decidable p] {k q : Nat} : (if p then .error ⟨k, q⟩ else .ok () : F Unit) = refu (decide p) k q := by
  unfold refu
  by_cases h : p <;> simp [h]
theorem refu_false {b : Bool} {k q : Nat} {u : Unit} (h : refu b k q = .ok u) : b = false := by
  unfold refu at h
  cases b with
  | false => rfl
  | true => cases h
theorem fix_eq {e : Nat} {s : Bytes} {l : List Word} : fixM e s l = (next e l >>= fun x => refu (!decide (x.1.w = s)) 3 x.1.at_ >>= fun _ => .ok x.2) := by
  cases l with
  | nil => rfl
  | cons w r =>
    show (if w.w = s then _ else _) = (refu (!decide (w.w = s)) 3 w.at_ >>= fun _ => .ok r)
    by_cases h : w.w = s
    · rw [if_pos h]; simp [refu, h]; rfl
    · rw [if_neg h]; simp [refu, h]; rfl
theorem name_eq {e : Nat} {l : List Word} : nameM e l = (next e l >>= fun x => refu (!isName x.1.w) 4 x.1.at_ >>= fun _ => .ok x) := by
  cases l with
  | nil => rfl
  | cons w r =>
    show (if isName w.w = true then _ else _) = (refu (!isName w.w) 4 w.at_ >>= fun _ => .ok (w, r))
    cases h : isName w.w with
    | true => rfl
    | false => rfl
theorem new_eq {e : Nat} {bar : Bytes} {had : List Bytes} {l : List Word} : newM e bar had l = (nameM e l >>= fun x => refu (decide (x.1.w = bar)) 4 x.1.at_ >>= fun _ => refu (decide (x.1.w ∈ had)) 5 x.1.at_ >>= fun _ => .ok (x.1.w, x.2)) := by
  cases l with
  | nil => rfl
  | cons w r =>
    simp only [newM, nameM]
    by_cases h : isName w.w = true
    · rw [if_pos h, if_pos h]
      show _ = (refu (decide (w.w = bar)) 4 w.at_ >>= _)
      by_cases h1 : w.w = bar
      · rw [if_pos h1]; simp [refu, h1]; rfl
      · rw [if_neg h1]
        by_cases h2 : w.w ∈ had
        · rw [if_pos h2]; simp [refu, h1, h2]; rfl
        · rw [if_neg h2]; simp [refu, h1, h2]; rfl
    · rw [if_neg h, if_neg h]; rfl
theorem knw_eq {e : Nat} {names : List Bytes} {l : List Word} : knwM e names l = (nameM e l >>= fun x => refu (!decide (x.1.w ∈ names)) 6 x.1.at_ >>= fun _ => .ok x) := by
  cases l with
  | nil => rfl
  | cons w r =>
    simp only [knwM, nameM]
    by_cases h : isName w.w = true
    · rw [if_pos h, if_pos h]
      show _ = (refu (!decide (w.w ∈ names)) 6 w.at_ >>= _)
      by_cases h2 : w.w ∈ names
      · rw [if_pos h2]; simp [refu, h2]; rfl
      · rw [if_neg h2]; simp [refu, h2]; rfl
    · rw [if_neg h, if_neg h]; rfl
theorem num_eq {e lo hi : Nat} {l : List Word} (hh : hi ≤ 9999) : numM e lo hi l = (next e l >>= fun x => refu (decide (numPy x.1.w < (lo : Int)) || decide ((hi : Int) < numPy x.1.w)) 4 x.1.at_ >>= fun _ => .ok (((numPy x.1.w).toNat, x.1.at_), x.2)) := by
  cases l with
  | nil => rfl
  | cons w r =>
    show (match numberOf w.w with | none => _ | some n => _) = (refu (decide (numPy w.w < (lo : Int)) || decide ((hi : Int) < numPy w.w)) 4 w.at_ >>= fun _ => .ok (((numPy w.w).toNat, w.at_), r))
    have h := num_bad (w := w.w) (lo := lo) hh
    have hb : (decide (numPy w.w < (lo : Int)) || decide ((hi : Int) < numPy w.w)) = decide (numPy w.w < (lo : Int) ∨ (hi : Int) < numPy w.w) := by
      rw [Bool.decide_or]
    rw [hb]
    cases hn : numberOf w.w with
    | none =>
      rw [hn] at h
      rw [decide_eq_true (h.mpr trivial)]; rfl
    | some n =>
      rw [hn] at h
      by_cases c : n < lo ∨ hi < n
      · rw [decide_eq_true (h.mpr c)]
        show (if n < lo ∨ hi < n then _ else _) = _
        rw [if_pos c]; rfl
      · have c2 : ¬ (numPy w.w < (lo : Int) ∨ (hi : Int) < numPy w.w) := fun z => c (h.mp z)
        rw [decide_eq_false c2]
        show (if n < lo ∨ hi < n then _ else _) = _
        rw [if_neg c, num_fits hh hn c]
        simp [refu]; rfl
theorem num_nn {e lo hi : Nat} {w : Word} (h : (decide (numPy w.w < (lo : Int)) || decide ((hi : Int) < numPy w.w)) = false) : ((numPy w.w).toNat : Int) = numPy w.w := by
  simp at h
  omega
theorem reach_eq {p : PT} {s : Bytes} {n a : Nat} : reachM p s n a = (refu (p.past s n) 5 a >>= fun _ => .ok { p with reached := (s, n) :: p.reached }) := by
  unfold reachM refu
  cases p.past s n <;> rfl
theorem free_eq {e : Nat} {p : PT} {l : List Word} : freeM e p l = (knwM e (coN p) l >>= fun x => refu (decide (x.1.w ∈ p.serving)) 7 x.1.at_ >>= fun _ => .ok (x.1.w, { p with serving := p.serving ++ [x.1.w] }, x.2)) := by
  unfold freeM
  refine bnd fun x _ => ?_
  by_cases h : x.1.w ∈ p.serving
  · rw [if_pos h]; simp [refu, h]; rfl
  · rw [if_neg h]; simp [refu, h]; rfl
theorem hold_eq {e : Nat} {p : PT} {l : List Word} : holdM e p l = (knwM e (swN p) l >>= fun x => refu (decide (x.1.w ∈ p.held)) 7 x.1.at_ >>= fun _ => .ok ({ p with held := p.held ++ [x.1.w] }, x.2)) := by
  unfold holdM
  refine bnd fun x _ => ?_
  by_cases h : x.1.w ∈ p.held
  · rw [if_pos h]; simp [refu, h]; rfl
  · rw [if_neg h]; simp [refu, h]; rfl
theorem sort_eq {e : Nat} {p : PT} {y : Nat} {l : List Word} : sortM e p y l = (next e l >>= fun x => refu (decide (sortOf x.1.w = 0)) 3 x.1.at_ >>= fun _ => refu (decide (sortOf x.1.w - 1 < y - 1)) 3 x.1.at_ >>= fun _ =>
    refu (decide (sortOf x.1.w = 4) && decide (p.T.devices.length = 8)) 3 x.1.at_ >>= fun _ => refu (decide (sortOf x.1.w = 5) && decide (p.T.kicks.length = 8)) 3 x.1.at_ >>= fun _ => .ok (sortOf x.1.w, x.2)) := by
  cases l with
  | nil => rfl
  | cons w r =>
    show (if _ then _ else _) = (refu (decide (sortOf w.w = 0)) 3 w.at_ >>= fun _ => refu (decide (sortOf w.w - 1 < y - 1)) 3 w.at_ >>= fun _ =>
      refu (decide (sortOf w.w = 4) && decide (p.T.devices.length = 8)) 3 w.at_ >>= fun _ => refu (decide (sortOf w.w = 5) && decide (p.T.kicks.length = 8)) 3 w.at_ >>= fun _ => .ok (sortOf w.w, r))
    by_cases h0 : sortOf w.w = 0
    · rw [if_pos (.inl h0)]; simp [refu, h0]; rfl
    · have e1 : (sortOf w.w < y) ↔ (sortOf w.w - 1 < y - 1) := by omega
      by_cases h1 : sortOf w.w < y
      · rw [if_pos (.inr (.inl h1))]
        simp [refu, h0, e1.mp h1]; rfl
      · have h1' : ¬ (sortOf w.w - 1 < y - 1) := fun z => h1 (e1.mpr z)
        by_cases h2 : sortOf w.w = 4 ∧ p.T.devices.length = 8
        · rw [if_pos (.inr (.inr (.inl h2)))]
          have b2 : (decide (sortOf w.w = 4) && decide (p.T.devices.length = 8)) = true := by
            rw [← Bool.decide_and]; exact decide_eq_true h2
          rw [b2, decide_eq_false h0, decide_eq_false h1']; rfl
        · have b2 : (decide (sortOf w.w = 4) && decide (p.T.devices.length = 8)) = false := by
            rw [← Bool.decide_and]; exact decide_eq_false h2
          by_cases h3 : sortOf w.w = 5 ∧ p.T.kicks.length = 8
          · rw [if_pos (.inr (.inr (.inr h3)))]
            have b3 : (decide (sortOf w.w = 5) && decide (p.T.kicks.length = 8)) = true := by
              rw [← Bool.decide_and]; exact decide_eq_true h3
            rw [b2, b3, decide_eq_false h0, decide_eq_false h1']; rfl
          · have b3 : (decide (sortOf w.w = 5) && decide (p.T.kicks.length = 8)) = false := by
              rw [← Bool.decide_and]; exact decide_eq_false h3
            rw [if_neg (by rintro (z | z | z | z); exact h0 z; exact h1 z; exact h2 z; exact h3 z)]
            rw [b2, b3, decide_eq_false h0, decide_eq_false h1']; rfl
theorem isName_py {w : Bytes} (h : w ≠ []) : isName w = (!(decide (12 < w.length) || !((w.head?.map isSmall).getD false)) && w.all isNm) := by
  unfold isName NAME
  have h1 : decide (1 ≤ w.length) = true := by
    cases w with
    | nil => exact absurd rfl h
    | cons a r => simp
  rw [h1, Bool.true_and]
  by_cases c : w.length ≤ 12
  · rw [decide_eq_true c, decide_eq_false (show ¬ 12 < w.length by omega), Bool.true_and, Bool.false_or, Bool.not_not, Bool.and_comm]; rfl
  · rw [decide_eq_false c, decide_eq_true (show 12 < w.length by omega)]; rfl
theorem numPy_py {w : Bytes} (h : w ≠ []) : numPy w = if (decide (4 < w.length) || !(w.all isDigit)) = true then -1 else if (w.head? = some 48 ∧ 1 < w.length) then -1 else ((w.foldl (fun (n : Nat) (c : UInt8) => 10 * n + (c.toNat - 48)) 0 : Nat) : Int) := by
  unfold numPy numberOf
  have h0 : w.isEmpty = false := by cases w with | nil => exact absurd rfl h | cons a r => rfl
  by_cases c1 : w.all isDigit = false
  · rw [if_pos (.inr (.inl c1)), c1]; simp
  · have c1' : w.all isDigit = true := by simpa using c1
    rw [c1']
    by_cases c2 : w.head? = some 48 ∧ 1 < w.length
    · have c2' : w.head? = some 48 ∧ w ≠ [48] := ⟨c2.1, by intro z; rw [z] at c2; simp at c2⟩
      rw [if_pos (.inr (.inr c2')), if_pos c2]; simp
    · have c2' : ¬ (w.head? = some 48 ∧ w ≠ [48]) := fun z => c2 ⟨z.1, by
        cases w with
        | nil => exact absurd rfl h
        | cons a r =>
          cases r with
          | nil => simp at z
          | cons b s => simp⟩
      rw [if_neg (by rintro (z | z | z); rw [h0] at z; cases z; cases z; exact c2' z), if_neg c2]
      by_cases c3 : w.length ≤ 4
      · simp [c3]
      · simp [c3]
theorem ifM_t {s : Bytes} {w : Word} {r : List Word} (h : w.w = s) : ifM s (w :: r) = (true, r) := if_pos h
theorem ifM_f {s : Bytes} {w : Word} {r : List Word} (h : ¬ w.w = s) : ifM s (w :: r) = (false, w :: r) := if_neg h
def sortN (y : Nat) : Bytes := if y ≤ 1 then kSw else if y = 2 then kLa else if y = 3 then kCo else if y = 4 then kDe else kKi
theorem sortN_of {w : Bytes} (h : sortOf w ≠ 0) : sortN (sortOf w) = w := by
  unfold sortOf at h ⊢
  by_cases h1 : w = kSw
  · rw [if_pos h1]; exact h1.symm
  · rw [if_neg h1] at h ⊢
    by_cases h2 : w = kLa
    · rw [if_pos h2]; exact h2.symm
    · rw [if_neg h2] at h ⊢
      by_cases h3 : w = kCo
      · rw [if_pos h3]; exact h3.symm
      · rw [if_neg h3] at h ⊢
        by_cases h4 : w = kDe
        · rw [if_pos h4]; exact h4.symm
        · rw [if_neg h4] at h ⊢
          by_cases h5 : w = kKi
          · rw [if_pos h5]; exact h5.symm
          · rw [if_neg h5] at h; exact absurd rfl h
end Bt
end
section
set_option Elab.async false
set_option linter.all false
namespace Bt
open Tilt
def endM (b : Bytes) (p : Nat) : F Nat := match upTo (b.drop p) with
  | none => .error ⟨1, b.length⟩
  | some (l, _) => .ok (p + l.length)
def cutB (b : Bytes) (p n : Nat) : Bytes := (b.drop p).take (n - p)
def chkM (b : Bytes) (p n : Nat) : F Unit := match badByte true 0 (cutB b p n) with
  | some i => .error ⟨2, p + i⟩
  | none => .ok ()
theorem lineAt_eq {b : Bytes} {p : Nat} : lineAt b p = (endM b p >>= fun n => chkM b p n >>= fun _ => .ok (wordsFrom p [] (cutB b p n), n)) := by
  unfold lineAt endM
  cases u : upTo (b.drop p) with
  | none => rfl
  | some lr =>
    obtain ⟨l, r⟩ := lr
    obtain ⟨e, _⟩ := upTo_some u
    show _ = (chkM b p (p + l.length) >>= _)
    have hc : cutB b p (p + l.length) = l := by
      unfold cutB
      rw [e, show p + l.length - p = l.length by omega, List.take_left]
    unfold chkM
    rw [hc]
    show (match badByte true 0 l with | some i => _ | none => _) = _
    cases badByte true 0 l <;> rfl
theorem endM_at {b : Bytes} {p n : Nat} (hp : p ≤ n) (h : ∀ k, p ≤ k → k < n → b[k]? ≠ some 10) (hn : b[n]? = some 10) : endM b p = .ok n := by
  have u := upTo_at (b := b.drop p) (n := n - p) (fun k hk => by rw [List.getElem?_drop]; exact h (p + k) (by omega) (by omega)) (by rw [List.getElem?_drop, show p + (n - p) = n by omega]; exact hn)
  unfold endM
  rw [u]
  show Except.ok _ = _
  have hl : n < b.length := (List.getElem?_eq_some_iff.mp hn).1
  rw [List.length_take, List.length_drop, show p + min (n - p) (b.length - p) = n by omega]
theorem endM_none {b : Bytes} {p : Nat} (h : ∀ k, p ≤ k → k < b.length → b[k]? ≠ some 10) : endM b p = .error ⟨1, b.length⟩ := by
  have u := upTo_none (b := b.drop p) (fun k hk => by rw [List.getElem?_drop]; rw [List.length_drop] at hk; exact h (p + k) (by omega) (by omega))
  unfold endM
  rw [u]
theorem endM_ok {b : Bytes} {p n : Nat} (h : endM b p = .ok n) : p ≤ n ∧ n < b.length := by
  unfold endM at h
  cases u : upTo (b.drop p) with
  | none => rw [u] at h; cases h
  | some lr =>
    obtain ⟨l, r⟩ := lr
    rw [u] at h
    cases h
    obtain ⟨e, _⟩ := upTo_some u
    have := congrArg List.length e
    rw [List.length_drop, List.length_append, List.length_cons] at this
    show p ≤ p + l.length ∧ p + l.length < b.length
    omega
theorem cutB_len {b : Bytes} {p n : Nat} (h : n ≤ b.length) : (cutB b p n).length = n - p := by
  unfold cutB
  rw [List.length_take, List.length_drop]; omega
theorem cutB_get {b : Bytes} {p n i : Nat} (h : i < n - p) : (cutB b p n)[i]? = b[p + i]? := by
  unfold cutB
  rw [List.getElem?_take_of_lt h, List.getElem?_drop]
theorem chk_bad {b : Bytes} {p n i : Nat} (hn : n ≤ b.length) (hi : i < n - p) (h : badAt (cutB b p n) i = true) (hb : ∀ k, k < i → badAt (cutB b p n) k = false) : chkM b p n = .error ⟨2, p + i⟩ := by
  unfold chkM
  rw [bad_first (by rw [cutB_len hn]; exact hi) h hb]
theorem chk_good {b : Bytes} {p n : Nat} (hn : n ≤ b.length) (hb : ∀ k, k < n - p → badAt (cutB b p n) k = false) : chkM b p n = .ok () := by
  unfold chkM
  rw [bad_none (by rw [cutB_len hn]; exact hb)]
theorem chk_none {b : Bytes} {p n : Nat} {u : Unit} (h : chkM b p n = .ok u) : badByte true 0 (cutB b p n) = none := by
  unfold chkM at h
  cases q : badByte true 0 (cutB b p n) with
  | none => rfl
  | some i => rw [q] at h; cases h
theorem badAt_py {b : Bytes} {p n i : Nat} (hn : n ≤ b.length) (hi : i < n - p) {c : UInt8} (hc : b[p + i]? = some c) : badAt (cutB b p n) i =
    ((decide (c.toNat < 32) || decide (126 < c.toNat)) || (decide (c.toNat = 32) && (decide (i = 0) || (decide (b[p + i - 1]? = some 32) || decide (p + i + 1 = n))))) := by
  unfold badAt
  rw [cutB_get hi, hc]
  simp only
  have e1 : decide (c < 32) = decide (c.toNat < 32) := by rw [decide_eq_decide]; exact UInt8.lt_iff_toNat_lt
  have e2 : decide (126 < c) = decide (126 < c.toNat) := by rw [decide_eq_decide]; exact UInt8.lt_iff_toNat_lt
  have e3 : (c == 32) = decide (c.toNat = 32) := by
    rw [Bool.eq_iff_iff, beq_iff_eq, decide_eq_true_eq]
    exact ⟨fun z => by rw [z]; rfl, fun z => UInt8.toNat_inj.mp z⟩
  rw [e1, e2, e3, cutB_len hn]
  have e4 : (i == 0) = decide (i = 0) := rfl
  have e5 : (i + 1 == n - p) = decide (p + i + 1 = n) := by
    rw [Bool.eq_iff_iff, beq_iff_eq, decide_eq_true_eq]; omega
  rw [e4, e5]
  by_cases z : i = 0
  · simp [z]
  · have e6 : ((cutB b p n)[i - 1]? == some 32) = decide (b[p + i - 1]? = some 32) := by
      rw [cutB_get (by omega), show p + (i - 1) = p + i - 1 by omega, Bool.eq_iff_iff, beq_iff_eq, decide_eq_true_eq]
    rw [e6]; simp only [Bool.or_assoc]
theorem places_step {b : Bytes} {p n i : Nat} (hi : i < n - p) {c : UInt8} (hc : b[p + i]? = some c) : placesF true p ((cutB b p n).take (i + 1)) =
    placesF true p ((cutB b p n).take i) ++ (if (decide (i = 0) || decide (b[p + i - 1]? = some 32)) = true then [p + i] else []) := by
  have hg : (cutB b p n)[i]? = some c := by rw [cutB_get hi]; exact hc
  have hlt : i < (cutB b p n).length := (List.getElem?_eq_some_iff.mp hg).1
  have e : (cutB b p n).take (i + 1) = (cutB b p n).take i ++ [c] := by
    rw [List.take_add_one, hg]; rfl
  rw [e, places_snoc]
  have hl : ((cutB b p n).take i).length = i := by rw [List.length_take]; omega
  rw [hl]
  congr 1
  have hlast : ((cutB b p n).take i).getLast? = if i = 0 then none else (cutB b p n)[i - 1]? := by
    rw [List.getLast?_eq_getElem?, hl]
    by_cases z : i = 0
    · subst z; simp
    · rw [if_neg z, List.getElem?_take_of_lt (by omega)]
  rw [hlast]
  by_cases z : i = 0
  · simp [z]
  · rw [if_neg z, cutB_get (by omega), show p + (i - 1) = p + i - 1 by omega]
    have hlt2 : p + i - 1 < b.length := by
      have := (List.getElem?_eq_some_iff.mp hc).1; omega
    obtain ⟨d, hd⟩ : ∃ d, b[p + i - 1]? = some d := ⟨_, List.getElem?_eq_getElem hlt2⟩
    rw [hd]
    simp [z]
end Bt
end
section
set_option Elab.async false
set_option linter.all false
set_option maxRecDepth 100000
set_option maxHeartbeats 1000000
namespace Br
open PySem PySem.Spec PyProof.Rows L2 Xc
open Tilt (Word Fault Bytes ascii isName)
open Bt (F cod isNm sgn refu)
structure Ad where
  F : Addr
  L : Addr
  T : Addr
  S : Addr
  M : Addr
  B : Addr
  so : Addr
def GV (mg : Str → Option Value) (x : Str) (v : V) : Prop := ∃ u, mg x = some u ∧ RelV v u
theorem pe_gv {X : Cx} {x : Str} {v : V} {pos : Pos} (hg : Gl X x) (h : GV X.mg x v) (hd : (x == ("__debug__" : Str)) = false := by decide) : PE X (.Name x pos) (tC v) := by
  obtain ⟨u, h1, h2⟩ := h
  exact pe_glob hg h1 h2 hd
structure Tx (K : PySem.W.Frag) (mg : Str → Option Value) (A : Ad) : Prop where
  flt : Flt K mg A.F
  cL : Cls K A.L
  nL_words : NoAttr K A.L "words"
  nL_places : NoAttr K A.L "places"
  nL_end : NoAttr K A.L "end"
  nL_given : NoAttr K A.L "given"
  cT : Cls K A.T
  nT_balls : NoAttr K A.T "balls"
  nT_drained : NoAttr K A.T "drained"
  nT_kicks : NoAttr K A.T "kicks"
  nT_switches : NoAttr K A.T "switches"
  nT_lamps : NoAttr K A.T "lamps"
  nT_coils : NoAttr K A.T "coils"
  nT_devices : NoAttr K A.T "devices"
  nT_held : NoAttr K A.T "held"
  nT_serving : NoAttr K A.T "serving"
  nT_reached : NoAttr K A.T "reached"
  cS : Cls K A.S
  nS_place : NoAttr K A.S "place"
  nS_closing : NoAttr K A.S "closing"
  nS_opening : NoAttr K A.S "opening"
  nS_turned : NoAttr K A.S "turned"
  nS_taken : NoAttr K A.S "taken"
  nS_seen : NoAttr K A.S "seen"
  cM : Cls K A.M
  nM_ticks : NoAttr K A.M "ticks"
  nM_switch_at : NoAttr K A.M "switch_at"
  nM_columns : NoAttr K A.M "columns"
  cB : Cls K A.B
  nB_matrix : NoAttr K A.B "matrix"
  gNOT_ENDED : GV mg "NOT_ENDED" (.int 1)
  gWRONG_BYTE : GV mg "WRONG_BYTE" (.int 2)
  gWRONG_WORD : GV mg "WRONG_WORD" (.int 3)
  gWRONG_FORM : GV mg "WRONG_FORM" (.int 4)
  gNOT_NEW : GV mg "NOT_NEW" (.int 5)
  gUNKNOWN : GV mg "UNKNOWN" (.int 6)
  gCLASHING : GV mg "CLASHING" (.int 7)
  gFEW_DRAINS : GV mg "FEW_DRAINS" (.int 8)
  gCOLUMNS : GV mg "COLUMNS" (.int 8)
  gOPENED : GV mg "OPENED" (.int 64)
  gNEWLINE : GV mg "NEWLINE" (.int 10)
  gBLANK : GV mg "BLANK" (.int 32)
  gLAST_SIGN : GV mg "LAST_SIGN" (.int 126)
  gLETTERS : GV mg "LETTERS" (.str "abcdefghijklmnopqrstuvwxyz")
  gDIGITS : GV mg "DIGITS" (.str "0123456789")
  gUNDERSCORE : GV mg "UNDERSCORE" (.str "_")
  gLONGEST_NAME : GV mg "LONGEST_NAME" (.int 12)
  gLONGEST_NUMBER : GV mg "LONGEST_NUMBER" (.int 4)
  gMOST_BALLS : GV mg "MOST_BALLS" (.int 8)
  gLAST_PLACE : GV mg "LAST_PLACE" (.int 63)
  gLAST_COIL_PLACE : GV mg "LAST_COIL_PLACE" (.int 31)
  gMOST_SAMPLES : GV mg "MOST_SAMPLES" (.int 31)
  gMOST_ON : GV mg "MOST_ON" (.int 1023)
  gMOST_REST : GV mg "MOST_REST" (.int 4095)
  gMOST_HOLD : GV mg "MOST_HOLD" (.int 15)
  gMOST_DEVICES : GV mg "MOST_DEVICES" (.int 8)
  gMOST_HELD : GV mg "MOST_HELD" (.int 8)
  gMOST_KICKS : GV mg "MOST_KICKS" (.int 8)
  gMOST_SPAN : GV mg "MOST_SPAN" (.int 255)
  gNO_SWITCH_NAME : GV mg "NO_SWITCH_NAME" (.str "drain")
  gNO_LAMP_NAME : GV mg "NO_LAMP_NAME" (.str "loop")
  gBEGIN : GV mg "BEGIN" (.int 1)
  gROWS : GV mg "ROWS" (.int 2)
  gSOON : GV mg "SOON" (.int 3)
  gSTANDS : GV mg "STANDS" (.int 4)
  gTICK : GV mg "TICK" (.int 5)
  gDONE : GV mg "DONE" (.int 0)
  gNO_SUCH_PLACE : GV mg "NO_SUCH_PLACE" (.int (-1))
  gTOO_LONG : GV mg "TOO_LONG" (.int (-2))
  gNO_SWITCH : GV mg "NO_SWITCH" (.int (-4))
  gFAULTY : GV mg "FAULTY" (.int (-6))
  gNOTHING_BEGUN : GV mg "NOTHING_BEGUN" (.int (-10))
  gMOST_BYTES : GV mg "MOST_BYTES" (.int 16384)
  gMOST_ROWS : GV mg "MOST_ROWS" (.int 65536)
  gSORTS : GV mg "SORTS" (.ref A.so)
  so : SqT K (fun _ => none) A.so [.str "switch", .str "lamp", .str "coil", .str "device", .str "kick"]
  soT : ∃ o, K.lookup A.so = some o ∧ o.cls = .type "tuple" ∧ o.dict = none
  b_len : mg "len" = none
  b_ord : mg "ord" = none
  b_range : mg "range" = none
  b_all : mg "all" = none
  b_int : mg "int" = none
  b_enumerate : mg "enumerate" = none
section
variable (P : Program) (w : World) (K : PySem.W.Frag) (mg : Str → Option Value) (base : Heap)
def Mt (CX : CXT) (C : Addr) (m : Str) (k : Nat) (ps : List Str) (sp : Sp) : Prop := ∃ f fd, Meth K C m f ∧ FnOk P w K mg base CX k f fd ps sp ∧ Binds K fd ps []
def Fn (CX : CXT) (x : Str) (k : Nat) (ps : List Str) (dvs : List V) (sp : Sp) : Prop := ∃ f fd ds, mg x = some (.ref f) ∧ PySem.W.keepIn K (.ref f) = true ∧ FnOk P w K mg base CX k f fd ps sp ∧ Binds K fd ps ds ∧ Vals dvs ds
def Ck (CX : CXT) (x : Str) (C : Addr) (k : Nat) (ps : List Str) (sp : Sp) : Prop := ∃ f fd, mg x = some (.ref C) ∧ Mk K C f ∧ FnOk P w K mg base CX k f fd ps sp ∧ Binds K fd ps []
end
section
variable {X : Cx} {CX : CXT} {k j : Nat} {C : Addr} {ps : List Str} {sp : Sp} {dvs : List V} {E : XK} {x m : Str} {p pos apos : Pos} {e o : Expr} {es : List Expr} {ta : TE} {t : TA}
theorem pe_mt {pl : Sem Bool} (he : PE X o ta) (c : Cls X.K C) (M : Mt X.prog X.w X.K X.mg X.base CX C m k ps sp) (hr : Room j X.A) (hj : k ≤ j) (hx : Passes CX X E) (ha : PA X (e :: es) t)
    (hst : starEach (e :: es) X.env = (false, eval e X.env) :: starEach es X.env := by rfl) (hpl : (backTo pos (starEach es X.env)).any (·.1) = false := by rfl)
    (ht : eval (.Call (.Attribute o m apos) (e :: es) [] pos) X.env = (do
      let ov ← eval o X.env
      standAt apos.atName
      let (f, first) ← holding [ov] (getMethod ov m pl)
      callWith pos f first (backTo pos (starEach (e :: es) X.env)) (backToKw pos (keywordEach [] X.env))) := by rfl) :
    PE X (.Call (.Attribute o m apos) (e :: es) [] pos) (tMeth C m sp [] E ta t) := by
  obtain ⟨f, fd, hm, G, hb⟩ := M
  exact pe_meth he c hm G (hr.mono hj) hb .nil hx ha hst hpl ht
theorem pe_mt0 {pl : Sem Bool} (he : PE X o ta) (c : Cls X.K C) (M : Mt X.prog X.w X.K X.mg X.base CX C m k ps sp) (hr : Room j X.A) (hj : k ≤ j) (hx : Passes CX X E)
    (ht : eval (.Call (.Attribute o m apos) [] [] pos) X.env = (do
      let ov ← eval o X.env
      standAt apos.atName
      let (f, first) ← holding [ov] (getMethod ov m pl)
      callWith pos f first (backTo pos (starEach [] X.env)) (backToKw pos (keywordEach [] X.env))) := by rfl) :
    PE X (.Call (.Attribute o m apos) [] [] pos) (tMeth C m sp [] E ta tNil) := by
  obtain ⟨f, fd, hm, G, hb⟩ := M
  exact pe_meth0 he c hm G (hr.mono hj) hb .nil hx ht
theorem pe_fn (M : Fn X.prog X.w X.K X.mg X.base CX x k ps dvs sp) (hr : Room j X.A) (hj : k ≤ j) (hg : Gl X x) (hx : Passes CX X E) (ha : PA X (e :: es) t) (hdb : (x == ("__debug__" : Str)) = false := by decide)
    (he : starEach (e :: es) X.env = (false, eval e X.env) :: starEach es X.env := by rfl) (hpl : (backTo pos (starEach es X.env)).any (·.1) = false := by rfl) :
    PE X (.Call (.Name x p) (e :: es) [] pos) (tCall sp dvs E t) := by
  obtain ⟨f, fd, ds, hm, hk, G, hb, hd⟩ := M
  exact pe_call G (hr.mono hj) hg hm hk hb hd hx ha hdb he hpl
theorem pe_ck (M : Ck X.prog X.w X.K X.mg X.base CX x C k ps sp) (hr : Room j X.A) (hj : k + 1 ≤ j) (hg : Gl X x) (hx : Passes CX X E) (ha : PA X (e :: es) t) (hdb : (x == ("__debug__" : Str)) = false := by decide)
    (he : starEach (e :: es) X.env = (false, eval e X.env) :: starEach es X.env := by rfl) (hpl : (backTo pos (starEach es X.env)).any (·.1) = false := by rfl) :
    PE X (.Call (.Name x p) (e :: es) [] pos) (tMake C sp [] E t) := by
  obtain ⟨f, fd, hm, hk, G, hb⟩ := M
  exact pe_make hk G (hr.mono hj) hg hm hb .nil hx ha hdb he hpl
theorem pe_ck0 (M : Ck X.prog X.w X.K X.mg X.base CX x C k ps sp) (hr : Room j X.A) (hj : k + 1 ≤ j) (hg : Gl X x) (hx : Passes CX X E) (hdb : (x == ("__debug__" : Str)) = false := by decide) :
    PE X (.Call (.Name x p) [] [] pos) (tMake C sp [] E tNil) := by
  obtain ⟨f, fd, hm, hk, G, hb⟩ := M
  exact pe_make0 hk G (hr.mono hj) hg hm hb .nil hx hdb
end
def Kp (S : List Addr) (H H' : Hp) : Prop := ∀ b o, H b = some o → b ∉ S → H' b = some o
theorem Kp.refl (S : List Addr) (H : Hp) : Kp S H H := fun _ _ h _ => h
theorem Kp.trans {S : List Addr} {H H1 H2 : Hp} (a : Kp S H H1) (b : Kp S H1 H2) : Kp S H H2 := fun c o h n => b c o (a c o h n) n
theorem Kp.mono {S S' : List Addr} {H H1 : Hp} (a : Kp S H H1) (h : ∀ x ∈ S, x ∈ S') : Kp S' H H1 := fun c o e n => a c o e fun z => n (h c z)
theorem Kp.new {S : List Addr} {H : Hp} {a : Addr} {o : HO} (h : H a = none) : Kp S H (upd H a o) := fun b u e _ => by rw [upd_ne (ne_of_none e h)]; exact e
theorem Kp.upd {S : List Addr} {H : Hp} {a : Addr} {o : HO} (h : a ∈ S) : Kp S H (L2.upd H a o) := fun b u e n => by rw [upd_ne fun z => n (by rw [z]; exact h)]; exact e
theorem Kp.same {H H1 : Hp} : Kp [] H H1 ↔ Same H H1 := ⟨fun a c o e => a c o e (by simp), fun a c o e _ => a c o e⟩
theorem Kp.free {S S' : List Addr} {H0 H H1 : Hp} (a : Kp S' H0 H) (b : Kp S H H1) (h : ∀ x ∈ S, H0 x = none ∨ x ∈ S') : Kp S' H0 H1 := fun c o e n => b c o (a c o e n) fun z => by
  rcases h c z with q | q
  · rw [q] at e; cases e
  · exact n q
def Does (C : Addr) (S : List Addr) (H : Hp) {α : Type} (m : F α) (Post : α → V → Hp → Prop) (Q : VK) (E : XK) : Prop := match m with
  | .ok x => ∀ v H', Kp S H H' → Post x v H' → Q v H'
  | .error f => ∀ dx H', Kp S H H' → H' dx = some (.xd (ff f.kind f.place)) → E (.ref C) (some dx) H'
section
variable {C : Addr} {S S0 : List Addr} {H H0 : Hp} {α β : Type} {Post : α → V → Hp → Prop} {Post1 : β → V → Hp → Prop} {Q Q1 : VK} {E : XK}
theorem Does.bind {m : F α} {k : α → F β} (D : Does C S0 H0 (m >>= k) Post1 Q1 E) (kk : ∀ H', Kp S H H' → Kp S0 H0 H')
    (h : ∀ x v H', m = .ok x → Kp S0 H0 H' → Kp S H H' → Post x v H' → Does C S0 H0 (k x) Post1 Q1 E → Q v H') : Does C S H m Post Q E := by
  cases m with
  | ok x => exact fun v H' k1 p => h x v H' rfl (kk H' k1) k1 p D
  | error f => exact fun dx H' k1 e => D dx H' (kk H' k1) e
theorem Does.raise {k q : Nat} (D : Does C S H0 (.error ⟨k, q⟩ : F α) Post Q E) (kk : Kp S H0 H) {dx : Addr} (hd : H dx = none) : E (.ref C) (some dx) (upd H dx (.xd (ff k q))) :=
  D dx _ (kk.trans (Kp.new hd)) upd_same
theorem Does.ok {x : α} (D : Does C S H0 (.ok x : F α) Post Q E) {v : V} (kk : Kp S H0 H) (p : Post x v H) : Q v H := D v H kk p
theorem Does.intro_ok {x : α} (h : ∀ v H', Kp S H H' → Post x v H' → Q v H') : Does C S H (.ok x : F α) Post Q E := h
theorem Does.eq {m m' : F α} (D : Does C S H0 m Post Q E) (h : m = m') : Does C S H0 m' Post Q E := h ▸ D
end
theorem len_put {f : Str} {v : V} {fs : List (Str × V)} {n : Nat} (h : fs.length ≤ n) : (putF f v fs).length ≤ n + 1 := Nat.le_trans (length_putF f v fs) (Nat.add_le_add_right h 1)
theorem lt_put {f : Str} {v : V} {fs : List (Str × V)} {n : Nat} (h : fs.length ≤ n) (hn : n + 1 < 1000 := by decide) : (putF f v fs).length < 1000 := Nat.lt_of_le_of_lt (len_put h) hn
def sW (w : Bytes) : Str := ⟨(cod w).toArray⟩
theorem sW_len (w : Bytes) : (sW w).length = w.length := by
  show (cod w).toArray.size = _
  simp [cod]
theorem sW_eq {w n : Bytes} (h : n.all isNm = true) : sW w = sW n ↔ w = n := by
  refine ⟨fun e => Bt.cod_inj h ?_, fun e => by rw [e]⟩
  have e1 : (cod w).toArray = (cod n).toArray := congrArg Str.cps e
  have e2 := congrArg Array.toList e1
  simpa using e2
theorem sW_dec {w n : Bytes} (h : n.all isNm = true) : decide (V.str (sW w) = V.str (sW n)) = decide (w = n) := by
  rw [decide_eq_decide]
  refine ⟨fun e => (sW_eq h).mp (by injection e), fun e => by rw [e]⟩
def lf (a b : Addr) (e g : Nat) : List (Str × V) := [("words", .ref a), ("places", .ref b), ("end", .int e), ("given", .int g)]
section
variable {a b : Addr} {e g : Nat}
theorem lf_words : (lf a b e g).lookup ("words" : Str) = some (V.ref a) := by kernel_rfl
theorem lf_places : (lf a b e g).lookup ("places" : Str) = some (V.ref b) := by kernel_rfl
theorem lf_end : (lf a b e g).lookup ("end" : Str) = some (V.int e) := by kernel_rfl
theorem lf_given : (lf a b e g).lookup ("given" : Str) = some (V.int g) := by kernel_rfl
theorem lf_put (z : Int) (h : Nat) (hz : z = h) : putF "given" (.int z) (lf a b e g) = lf a b e h := by subst hz; kernel_rfl
end
def wV (w : Word) : V := .str (sW w.w)
structure LnAt (C : Addr) (H : Hp) (p : Addr) (e : Nat) (l : List Word) (last : Option Nat) : Prop where
  ex : ∃ (dx a b : Addr) (g : Nat) (all : List Word), H p = some (.ins C dx (lf a b e g)) ∧ H a = some (.lst (all.map wV)) ∧ H b = some (.lst (all.map fun w => .int w.at_)) ∧ all.drop g = l ∧ g ≤ all.length ∧
    (∀ q, last = some q → ∃ w, all[g - 1]? = some w ∧ w.at_ = q ∧ 1 ≤ g) ∧ ∀ w ∈ all, w.w ≠ [] ∧ w.w.length ≤ 16384
theorem LnAt.weak {C : Addr} {H : Hp} {p : Addr} {e : Nat} {l : List Word} {q : Option Nat} (h : LnAt C H p e l q) : LnAt C H p e l none := by
  obtain ⟨dx, a, b, g, all, h1, h2, h3, h4, h5, h6, h7⟩ := h.ex
  exact ⟨dx, a, b, g, all, h1, h2, h3, h4, h5, (fun q z => nomatch z), h7⟩
theorem LnAt.keep {C : Addr} {H H' : Hp} {S : List Addr} {p : Addr} {e : Nat} {l : List Word} {q : Option Nat} (h : LnAt C H p e l q) (k : Kp S H H') (hp : p ∉ S) (hl : ∀ x ∈ S, ∀ xs, H x ≠ some (.lst xs)) : LnAt C H' p e l q := by
  obtain ⟨dx, a, b, g, all, h1, h2, h3, r⟩ := h.ex
  exact ⟨dx, a, b, g, all, k _ _ h1 hp, k _ _ h2 (fun z => hl a z _ h2), k _ _ h3 (fun z => hl b z _ h3), r⟩
end Br
end
section
set_option Elab.async false
set_option linter.all false
set_option maxRecDepth 100000
set_option maxHeartbeats 1000000
namespace Br
open PySem PySem.Spec PyProof.Rows L2 Xc
open Tilt (Word Fault Bytes ascii isName isSmall isDigit)
open Bt (F cod isNm sgn)
theorem u8 {p : UInt8 → Prop} (h : ∀ n : Fin 256, p (UInt8.ofNat n.1)) (c : UInt8) : p c := by
  have := h ⟨c.toNat, c.toNat_lt⟩
  simpa using this
abbrev LET : Str := "abcdefghijklmnopqrstuvwxyz"
abbrev DIG : Str := "0123456789"
theorem let_l : LET.cps.toList = List.range' 97 26 := by kernel_rfl
theorem dig_l : DIG.cps.toList = List.range' 48 10 := by kernel_rfl
theorem us_l : (("_" : Str)) = ⟨#[95]⟩ := by kernel_rfl
theorem bl_l : ((" " : Str)) = ⟨#[32]⟩ := by kernel_rfl
theorem qm_l : (("?" : Str)) = ⟨#[63]⟩ := by kernel_rfl
theorem sgn_small (c : UInt8) : decide (sgn c ∈ LET.cps.toList) = isSmall c := by
  rw [let_l]
  revert c
  exact u8 (by decide +kernel)
theorem sgn_digit (c : UInt8) : decide (sgn c ∈ DIG.cps.toList) = isDigit c := by
  rw [dig_l]
  revert c
  exact u8 (by decide +kernel)
theorem sgn_us (c : UInt8) : decide (V.str ⟨#[sgn c]⟩ = V.str "_") = (c == 95) := by
  rw [us_l]
  have e : decide (V.str ⟨#[sgn c]⟩ = V.str ⟨#[95]⟩) = decide (sgn c = 95) := by
    rw [decide_eq_decide]
    refine ⟨fun z => by injection z with z; injection z with z; simpa using z, fun z => by rw [z]⟩
  rw [e]
  revert c
  exact u8 (by decide +kernel)
theorem sgn_by (c : UInt8) : sgn c = if c = 32 then 32 else if 97 ≤ c.toNat ∧ c.toNat ≤ 122 then c.toNat else if 48 ≤ c.toNat ∧ c.toNat ≤ 57 then c.toNat else if c.toNat = 95 then 95 else 63 := by
  revert c
  exact u8 (by decide +kernel)
theorem dInt {i j : Int} : decide (V.int i = V.int j) = decide (i = j) := by
  rw [decide_eq_decide]
  exact ⟨fun z => by injection z, fun z => by rw [z]⟩
theorem rd_ord {x : Str} {n : Nat} {σ : L2.St} {H : Hp} {Q : VK} (h1 : x.length = 1) (h2 : x.cps.getD 0 0 = n) (q : Q (.int n) H) :
    tCB (fun xs H Q => ∃ x, xs = [V.str x] ∧ x.length = 1 ∧ Q (.int (x.cps.getD 0 0 : Nat)) H) (tCons (tC (.str x)) tNil) σ H Q := ⟨x, rfl, h1, by rw [h2]; exact q⟩
theorem lc_str {z : Str} {g : TG} {tt : TT} {te : TE} {vs : List Nat} {σ : L2.St} {H1 : Hp} {D : Addr} {Qd : Hp → Prop} (Pv : Nat → Hp → Prop) (h0 : Pv 0 (upd H1 D (.lst [])))
    (hs : ∀ i c H, z.cps[i]? = some c → Pv i H → g (.str ⟨#[c]⟩) (wipe σ vs) H fun σ2 H2 => wipe σ2 vs = wipe σ vs ∧ tt σ2 H2 fun b H3 =>
      if b = true then te σ2 H3 fun y H4 => ∃ acc, H4 D = some (.lst acc) ∧ acc.length < sizeLine ∧ Pv (i + 1) (upd H4 D (.lst (acc ++ [y]))) else Pv (i + 1) H3) (hd : ∀ H, Pv z.cps.size H → Qd H) :
    ∃ W : Nat → Nat → Hp → Prop, (∃ m, W 0 m (upd H1 D (.lst []))) ∧ ∀ i m H, W i m H →
      ((Its z).stop i H ∧ Qd H) ∨ ((Its z).go i H ∧ ∃ Nx : Hp → Prop, (∀ H', Nx H' → ∃ m', m' < m ∧ W (i + 1) m' H') ∧ ∀ x H', (Its z).yld i H x H' → g x (wipe σ vs) H' fun σ2 H2 => wipe σ2 vs = wipe σ vs ∧ tt σ2 H2 fun b H3 =>
        if b = true then te σ2 H3 fun y H4 => ∃ acc, H4 D = some (.lst acc) ∧ acc.length < sizeLine ∧ Nx (upd H4 D (.lst (acc ++ [y]))) else Nx H3) := by
  refine ⟨fun i m H => m = z.cps.size - i ∧ i ≤ z.cps.size ∧ Pv i H, ⟨z.cps.size, by simp, Nat.zero_le _, h0⟩, ?_⟩
  rintro i m H ⟨rfl, hi, p⟩
  by_cases hlt : i < z.cps.size
  · refine .inr ⟨hlt, Pv (i + 1), fun H' p' => ⟨z.cps.size - (i + 1), by omega, rfl, hlt, p'⟩, fun x H' y => ?_⟩
    obtain ⟨e, c, hc, y⟩ := y
    subst e y
    exact hs i c _ hc p
  · have e : i = z.cps.size := by omega
    subst e
    exact .inl ⟨Nat.le_refl _, hd H p⟩
def spSign : Sp := fun vs H Q _ => ∃ c : UInt8, vs = [.int c.toNat] ∧ Q (.str ⟨#[sgn c]⟩) H
def spName : Sp := fun vs H Q _ => ∃ w : Bytes, vs = [.str (sW w)] ∧ w ≠ [] ∧ w.length ≤ 16384 ∧ ∀ H', Same H H' → Q (.bl (isName w)) H'
def spNum : Sp := fun vs H Q _ => ∃ w : Bytes, vs = [.str (sW w)] ∧ w ≠ [] ∧ w.length ≤ 16384 ∧ ∀ H', Same H H' → Q (.int (Bt.numPy w)) H'
section
variable {P : Program} {w : World} {K : PySem.W.Frag} {mg : Str → Option Value} {base : Heap} {A : Ad} {f : Addr} {fd : FuncData}
theorem scSign : FnScope ["byte"] ["byte"] (defScope (top 24)) := ⟨rfl, rfl, rfl, by decide +kernel, rfl, by decide +kernel, by decide +kernel⟩
theorem ok_sign (T : Tx K mg A) (G : Fun K "sign_of" "sign_of" (top 24) f fd) : FnOk P w K mg base CX0 1 f fd ["byte"] spSign := by
  refine G.ok scSign (fun vs H Q E h => ?_) (fun cdv Ar outer s H vs Q E hr h => ?_)
  · obtain ⟨c, rfl, _⟩ := h
    rfl
  · obtain ⟨c, rfl, k⟩ := h
    rw [sgn_by c] at k
    refine ⟨_, pss_cons (ps_if (pt_cmpR op_eq (pv 0) (pe_gv rfl T.gBLANK) (nomark _)) (pss_one (ps_ret pe_str)) pss_nil)
      (pss_cons (ps_if (PW.pt (pw_and (pt_cmpR op_ge (pv 0) (pe_callB call_ord rfl T.b_ord PyProof.Rows.boot_ord (pa_cons pe_str pa_nil)) (nomark _)) (pw_and1 (pt_cmpR op_le (pv 0) (pe_callB call_ord rfl T.b_ord PyProof.Rows.boot_ord (pa_cons pe_str pa_nil)) (nomark _)))))
        (pss_one (ps_ret (pe_ix ix_str (pe_gv rfl T.gLETTERS) (pe_op op_sub (pv 0) (pe_callB call_ord rfl T.b_ord PyProof.Rows.boot_ord (pa_cons pe_str pa_nil))) (fun _ _ => rfl)))) pss_nil)
      (pss_cons (ps_if (PW.pt (pw_and (pt_cmpR op_ge (pv 0) (pe_callB call_ord rfl T.b_ord PyProof.Rows.boot_ord (pa_cons pe_str pa_nil)) (nomark _)) (pw_and1 (pt_cmpR op_le (pv 0) (pe_callB call_ord rfl T.b_ord PyProof.Rows.boot_ord (pa_cons pe_str pa_nil)) (nomark _)))))
        (pss_one (ps_ret (pe_ix ix_str (pe_gv rfl T.gDIGITS) (pe_op op_sub (pv 0) (pe_callB call_ord rfl T.b_ord PyProof.Rows.boot_ord (pa_cons pe_str pa_nil))) (fun _ _ => rfl)))) pss_nil)
      (pss_one (ps_ret (pe_ifExp (pt_cmpR op_eq (pv 0) (pe_callB call_ord rfl T.b_ord PyProof.Rows.boot_ord (pa_cons (pe_gv rfl T.gUNDERSCORE) pa_nil)) (nomark _)) (pe_gv rfl T.gUNDERSCORE) pe_str))))), ?_⟩
    have hc : (c.toNat : Int) = 32 ↔ c = 32 := ⟨fun z => UInt8.toNat_inj.mp (by show c.toNat = 32; omega), fun z => by rw [z]; rfl⟩
    refine ⟨_, rfl, rfl, _, rfl, ?_⟩
    rw [dInt]
    refine ite2 (fun e => ?_) (fun ne => ?_)
    · have e' := of_decide_eq_true e
      rw [if_pos (hc.mp e')] at k
      show Q (.str " ") H
      rw [bl_l]; exact k
    · have ne' : ¬ c = 32 := fun z => ne (decide_eq_true (hc.mpr z))
      rw [if_neg ne'] at k
      have low : ∀ (l n : Nat), l ≤ c.toNat ∧ c.toNat < l + n → atI (List.range' l n) ((c.toNat : Int) - (l : Int)) = some c.toNat := fun l n hn => by
        rw [show (c.toNat : Int) - (l : Int) = ((c.toNat - l : Nat) : Int) by omega]
        refine atI_nat ?_
        rw [List.getElem?_range' (by omega)]
        congr 1; omega
      have rest2 : ¬ (97 ≤ c.toNat ∧ c.toNat ≤ 122) → ¬ (48 ≤ c.toNat ∧ c.toNat ≤ 57) → tIf (tTest (tOp rEq (tVar 0) (tCB (fun xs H Q => ∃ x, xs = [V.str x] ∧ x.length = 1 ∧ Q (.int (x.cps.getD 0 0 : Nat)) H) (tCons (tC (.str "_")) tNil)))) (tC (.str "_")) (tC (.str "?")) [some (.int c.toNat)] H Q := fun h1 h2 => by
        rw [if_neg h1, if_neg h2] at k
        refine ⟨_, rfl, rd_ord (x := "_") (n := 95) (by kernel_rfl) (by kernel_rfl) ⟨rfl, _, rfl, ?_⟩⟩
        rw [dInt]
        refine ite2 (fun e => ?_) (fun e => ?_)
        · have e' := of_decide_eq_true e
          rw [if_pos (by omega)] at k
          show Q (.str "_") H
          rw [us_l]; exact k
        · rw [if_neg (fun z => e (decide_eq_true (by omega)))] at k
          show Q (.str "?") H
          rw [qm_l]; exact k
      have rest1 : ¬ (97 ≤ c.toNat ∧ c.toNat ≤ 122) → tIfS (tAnd (tTest (tOp (rI0 fun i j => .bl (decide (j ≤ i))) (tVar 0) (tCB (fun xs H Q => ∃ x, xs = [V.str x] ∧ x.length = 1 ∧ Q (.int (x.cps.getD 0 0 : Nat)) H) (tCons (tC (.str "0")) tNil))))
          (tTest (tOp (rI0 fun i j => .bl (decide (i ≤ j))) (tVar 0) (tCB (fun xs H Q => ∃ x, xs = [V.str x] ∧ x.length = 1 ∧ Q (.int (x.cps.getD 0 0 : Nat)) H) (tCons (tC (.str "9")) tNil)))))
          (tRet (tOp rIxS (tC (.str DIG)) (tOp (rI0 fun i j => .int (i - j)) (tVar 0) (tCB (fun xs H Q => ∃ x, xs = [V.str x] ∧ x.length = 1 ∧ Q (.int (x.cps.getD 0 0 : Nat)) H) (tCons (tC (.str "0")) tNil))))) tNext
          { nx := tRet (tIf (tTest (tOp rEq (tVar 0) (tCB (fun xs H Q => ∃ x, xs = [V.str x] ∧ x.length = 1 ∧ Q (.int (x.cps.getD 0 0 : Nat)) H) (tCons (tC (.str "_")) tNil)))) (tC (.str "_")) (tC (.str "?"))) { nx := fun _ H' => Q .non H', rt := Q }, rt := Q } [some (.int c.toNat)] H := fun h1 => by
        refine ⟨_, rfl, rd_ord (x := "0") (n := 48) (by kernel_rfl) (by kernel_rfl) ⟨_, _, rfl, rfl, _, rfl, ?_⟩⟩
        refine ite2 (fun e1 => ⟨_, rfl, rd_ord (x := "9") (n := 57) (by kernel_rfl) (by kernel_rfl) ⟨_, _, rfl, rfl, _, rfl, ?_⟩⟩) (fun e1 => ?_)
        · have e1' := of_decide_eq_true e1
          refine ite2 (fun e2 => ?_) (fun e2 => ?_)
          · have e2' := of_decide_eq_true e2
            have h2 : 48 ≤ c.toNat ∧ c.toNat ≤ 57 := by omega
            rw [if_neg h1, if_pos h2] at k
            refine ⟨_, rfl, rd_ord (x := "0") (n := 48) (by kernel_rfl) (by kernel_rfl) ⟨_, _, rfl, rfl, DIG, _, c.toNat, rfl, rfl, by decide +kernel, ?_, k⟩⟩
            rw [dig_l]; exact low 48 10 (by omega)
          · exact rest2 h1 fun z => e2 (decide_eq_true (by omega))
        · refine iteF ?_
          exact rest2 h1 fun z => e1 (decide_eq_true (by omega))
      refine ⟨_, rfl, rd_ord (x := "a") (n := 97) (by kernel_rfl) (by kernel_rfl) ⟨_, _, rfl, rfl, _, rfl, ?_⟩⟩
      refine ite2 (fun e1 => ⟨_, rfl, rd_ord (x := "z") (n := 122) (by kernel_rfl) (by kernel_rfl) ⟨_, _, rfl, rfl, _, rfl, ?_⟩⟩) (fun e1 => ?_)
      · have e1' := of_decide_eq_true e1
        refine ite2 (fun e2 => ?_) (fun e2 => ?_)
        · have e2' := of_decide_eq_true e2
          have h1 : 97 ≤ c.toNat ∧ c.toNat ≤ 122 := by omega
          rw [if_pos h1] at k
          refine ⟨_, rfl, rd_ord (x := "a") (n := 97) (by kernel_rfl) (by kernel_rfl) ⟨_, _, rfl, rfl, LET, _, c.toNat, rfl, rfl, by decide +kernel, ?_, k⟩⟩
          rw [let_l]; exact low 97 26 (by omega)
        · exact rest1 fun z => e2 (decide_eq_true (by omega))
      · refine iteF ?_
        exact rest1 fun z => e1 (decide_eq_true (by omega))
theorem all_bools {w : Bytes} {p : Nat → Bool} {q : UInt8 → Bool} (h : ∀ c, p (sgn c) = q c) : ((cod w).map p).all id = w.all q := by
  unfold cod
  rw [List.map_map, List.all_map]
  induction w with
  | nil => rfl
  | cons a r ih =>
    rw [List.all_cons, List.all_cons, ih]
    show (p (sgn a) && _) = _
    rw [h]
theorem sW_size (w : Bytes) : (sW w).cps.size = w.length := by simp [sW, cod]
theorem sW_list (w : Bytes) : (sW w).cps.toList = cod w := by simp [sW]
theorem sW_head {w : Bytes} {u : UInt8} (h : w.head? = some u) : atI (sW w).cps.toList 0 = some (sgn u) := by
  rw [sW_list]
  refine atI_nat (j := 0) ?_
  cases w with
  | nil => cases h
  | cons a r => cases h; rfl
theorem take_snoc {α : Type} : ∀ {l : List α} {i : Nat} {x : α}, l[i]? = some x → l.take (i + 1) = l.take i ++ [x]
  | [], i, x, h => by simp at h
  | a :: l, 0, x, h => by
    have e : a = x := Option.some.inj h
    subst e
    rfl
  | a :: l, i + 1, x, h => by
    have ih := take_snoc (l := l) (i := i) (x := x) h
    show a :: l.take (i + 1) = a :: l.take i ++ [x]
    rw [ih]
    rfl
theorem lc_bools {w : Bytes} {p : Nat → Bool} {te : TE} {σ : L2.St} {H : Hp} {D : Addr} {Qd : Hp → Prop} {i0 : Nat} (hw : w.length ≤ 16384) (hD : H D = none)
    (hi : (wipe σ [i0]).set i0 none = wipe σ [i0])
    (hte : ∀ c H' Q, Q (.bl (p c)) H' → te ((wipe σ [i0]).set i0 (some (.str ⟨#[c]⟩))) H' Q) (hq : ∀ H', Same H H' → H' D = some (.lst (((cod w).map p).map V.bl)) → Qd H') :
    ∃ W : Nat → Nat → Hp → Prop, (∃ m, W 0 m (upd H D (.lst []))) ∧ ∀ i m H, W i m H →
      ((Its (sW w)).stop i H ∧ Qd H) ∨ ((Its (sW w)).go i H ∧ ∃ Nx : Hp → Prop, (∀ H', Nx H' → ∃ m', m' < m ∧ W (i + 1) m' H') ∧ ∀ x H', (Its (sW w)).yld i H x H' → gName i0 x (wipe σ [i0]) H' fun σ2 H2 => wipe σ2 [i0] = wipe σ [i0] ∧ tYes σ2 H2 fun b H3 =>
        if b = true then te σ2 H3 fun y H4 => ∃ acc, H4 D = some (.lst acc) ∧ acc.length < sizeLine ∧ Nx (upd H4 D (.lst (acc ++ [y]))) else Nx H3) := by
  refine lc_str (fun i H' => Same H H' ∧ H' D = some (.lst ((((cod w).take i).map p).map V.bl))) ⟨fun b o e => by rw [upd_ne (ne_of_none e hD)]; exact e, upd_same⟩ (fun i c H' hc ⟨hs, hd⟩ => ?_) (fun H' ⟨hs, hd⟩ => ?_)
  · refine ⟨?_, ?_⟩
    · show ((wipe σ [i0]).set i0 (some (.str ⟨#[c]⟩))).set i0 none = _
      rw [List.set_set]; exact hi
    · have h' : (cod w)[i]? = some c := by simpa [sW] using hc
      unfold tYes; simp only []
      rw [if_pos trivial]
      refine hte c H' _ ⟨_, hd, ?_, ?_, ?_⟩
      · rw [List.length_map, List.length_map, List.length_take]
        have : (cod w).length = w.length := by simp [cod]
        have : sizeLine = 16777216 := sizeLine_eq
        omega
      · exact fun b o e => by rw [upd_ne (ne_of_none e hD)]; exact hs b o e
      · rw [upd_same, take_snoc h', List.map_append, List.map_append]; rfl
  · refine hq H' hs ?_
    rw [hd, sW_size, List.take_of_length_le (by simp [cod])]
theorem scName : FnScope ["word", "sign"] ["word"] (defScope (top 25)) := ⟨rfl, rfl, rfl, by decide +kernel, rfl, by decide +kernel, by decide +kernel⟩
theorem ok_name (T : Tx K mg A) (G : Fun K "is_name" "is_name" (top 25) f fd) : FnOk P w K mg base CX0 1 f fd ["word"] spName := by
  refine G.ok scName (fun vs H Q E h => ?_) (fun cdv Ar outer s H vs Q E hr h => ?_)
  · obtain ⟨c, rfl, _⟩ := h
    rfl
  · obtain ⟨b, rfl, hne, hlen, k⟩ := h
    rw [Bt.isName_py hne] at k
    obtain ⟨u, hu⟩ : ∃ u, b.head? = some u := by
      cases b with
      | nil => exact absurd rfl hne
      | cons a r => exact ⟨a, rfl⟩
    rw [hu] at k
    have hl1 : (sW b).length ≤ sizeLine := by rw [sW_len, sizeLine_eq]; omega
    refine ⟨_, pss_cons (ps_if (PW.pt (pw_or (pt_cmpR op_gt (pe_callB call_len_str rfl T.b_len PySem.boot_len (pa_cons (pv 0) pa_nil)) (pe_gv rfl T.gLONGEST_NAME) (nomark _)) (pw_or1 (pt_cmpR op_notIn_sign (pe_ix ix_str (pv 0) pe_int (fun _ _ => rfl)) (pe_gv rfl T.gLETTERS) (by with_unfolding_all rfl)))))
        (pss_one (ps_ret pe_bl)) pss_nil)
      (pss_one (ps_ret (pe_callB (cr_all rfl) rfl T.b_all PyProof.Rows.boot_all (pa_cons (pe_lc (own := [("sign", 1)]) rfl scName.nd (pi_str (pv 0)) (blkOk_by (by kernel_rfl)) (fun _ _ _ _ _ => pg_name (i := 1) scName.nd rfl (Or.inl rfl)) (fun _ _ _ _ _ => pts_nil)
        (fun _ _ _ _ _ => pe_or (pe_cmpR op_in_sign (pv 1) (pe_gv rfl T.gLETTERS) (by with_unfolding_all rfl)) (pe_or (pe_cmpR op_in_sign (pv 1) (pe_gv rfl T.gDIGITS) (by with_unfolding_all rfl)) (pe_one (pe_cmpR op_eq (pv 1) (pe_gv rfl T.gUNDERSCORE) (nomark _)))))) pa_nil)))), ?_⟩
    have last : ((decide (12 < b.length) || !((some u).map isSmall).getD false) = false) → tRet (tCB (rAll K) (tCons (tLc (iStr (tVar 0)) (gName 1) tYes (tOrV (tOp (fun x y H Q => ∃ (c : Nat) (z : Str), x = .str ⟨#[c]⟩ ∧ y = .str z ∧ Q (.bl (decide (c ∈ z.cps.toList))) H) (tVar 1) (tC (.str LET)))
        (tOrV (tOp (fun x y H Q => ∃ (c : Nat) (z : Str), x = .str ⟨#[c]⟩ ∧ y = .str z ∧ Q (.bl (decide (c ∈ z.cps.toList))) H) (tVar 1) (tC (.str DIG))) (tOp rEq (tVar 1) (tC (.str "_"))))) [1]) tNil)) { nx := fun _ H' => Q .non H', rt := Q } [some (.str (sW b)), none] H := fun hf => by
      rw [hf] at k
      refine ⟨_, rfl, sW b, rfl, fun D hD => ?_⟩
      refine lc_bools (p := fun c => decide (c ∈ LET.cps.toList) || (decide (c ∈ DIG.cps.toList) || decide (V.str ⟨#[c]⟩ = V.str "_"))) hlen hD rfl (fun c H' Q' q => ?_) fun H' hs hd => ?_
      · refine ⟨_, rfl, c, LET, rfl, rfl, _, rfl, ite2 (fun e => ?_) fun e => ?_⟩
        · rw [e] at q; exact q
        · refine ⟨_, rfl, c, DIG, rfl, rfl, _, rfl, ite2 (fun e2 => ?_) fun e2 => ⟨_, rfl, rfl, ?_⟩⟩
          · rw [eq_false_of_ne_true e, e2] at q; exact q
          · rw [eq_false_of_ne_true e, eq_false_of_ne_true e2] at q; exact q
      · refine ⟨D, _, rfl, SqL.of hd, ?_⟩
        have : ((cod b).map fun c => decide (c ∈ LET.cps.toList) || (decide (c ∈ DIG.cps.toList) || decide (V.str ⟨#[c]⟩ = V.str "_"))).all id = b.all isNm := all_bools fun c => by
          rw [sgn_small, sgn_digit, sgn_us]; rfl
        rw [this]
        exact k H' hs
    refine ⟨_, rfl, _, rfl, hl1, _, _, rfl, rfl, _, rfl, ?_⟩
    have e12 : decide ((12 : Int) < ((sW b).length : Int)) = decide (12 < b.length) := by rw [sW_len, decide_eq_decide]; omega
    rw [e12]
    refine ite2 (fun e => ?_) (fun e => ?_)
    · rw [e] at k
      refine iteT ?_
      exact k H (Same.refl H)
    · refine ⟨_, rfl, sW b, 0, sgn u, rfl, rfl, hl1, sW_head hu, sgn u, LET, rfl, rfl, _, rfl, ?_⟩
      rw [sgn_small]
      refine ite2 (fun e2 => ?_) (fun e2 => ?_)
      · have : (decide (12 < b.length) || !((some u).map isSmall).getD false) = true := by
          show (_ || !(isSmall u)) = true
          rw [e2, Bool.or_true]
        rw [this] at k
        exact k H (Same.refl H)
      · exact last (by show (_ || !(isSmall u)) = false; rw [eq_false_of_ne_true e, eq_false_of_ne_true e2]; rfl)
theorem digitsVal_fold (w : Bytes) : ∀ a : Nat, (w.all isDigit = true) → (cod w).foldl (fun acc c => acc * 10 + (c - 48)) a = w.foldl (fun (n : Nat) (c : UInt8) => 10 * n + (c.toNat - 48)) a := by
  induction w with
  | nil => intro a _; rfl
  | cons c r ih =>
    intro a h
    rw [List.all_cons, Bool.and_eq_true] at h
    show (cod r).foldl _ (a * 10 + (sgn c - 48)) = r.foldl _ (10 * a + (c.toNat - 48))
    have e : sgn c = c.toNat := Bt.sgn_nm (by unfold isNm; rw [h.1]; simp)
    rw [ih _ h.2, e, Nat.mul_comm]
theorem scNum : FnScope ["word", "sign"] ["word"] (defScope (top 26)) := ⟨rfl, rfl, rfl, by decide +kernel, rfl, by decide +kernel, by decide +kernel⟩
theorem ok_num (T : Tx K mg A) (G : Fun K "number_of" "number_of" (top 26) f fd) : FnOk P w K mg base CX0 1 f fd ["word"] spNum := by
  refine G.ok scNum (fun vs H Q E h => ?_) (fun cdv Ar outer s H vs Q E hr h => ?_)
  · obtain ⟨c, rfl, _⟩ := h
    rfl
  · obtain ⟨b, rfl, hne, hlen, k⟩ := h
    rw [Bt.numPy_py hne] at k
    obtain ⟨u, hu⟩ : ∃ u, b.head? = some u := by
      cases b with
      | nil => exact absurd rfl hne
      | cons a r => exact ⟨a, rfl⟩
    have hl1 : (sW b).length ≤ sizeLine := by rw [sW_len, sizeLine_eq]; omega
    refine ⟨_, pss_cons (ps_if (PW.pt (pw_or (pt_cmpR op_gt (pe_callB call_len_str rfl T.b_len PySem.boot_len (pa_cons (pv 0) pa_nil)) (pe_gv rfl T.gLONGEST_NUMBER) (nomark _)) (pw_or1 (pt_not (pt_val (pe_callB (cr_all rfl) rfl T.b_all PyProof.Rows.boot_all (pa_cons (pe_lc (own := [("sign", 1)]) rfl scNum.nd (pi_str (pv 0)) (blkOk_by (by kernel_rfl)) (fun _ _ _ _ _ => pg_name (i := 1) scNum.nd rfl (Or.inl rfl)) (fun _ _ _ _ _ => pts_nil)
        (fun _ _ _ _ _ => pe_cmpR op_in_sign (pv 1) (pe_gv rfl T.gDIGITS) (by with_unfolding_all rfl))) pa_nil)))))))
        (pss_one (ps_ret (pe_un un_neg pe_int))) pss_nil)
      (pss_cons (ps_if (PW.pt (pw_and (pt_cmpR op_eq (pe_ix ix_str (pv 0) pe_int (fun _ _ => rfl)) pe_str (nomark _)) (pw_and1 (pt_cmpR op_gt (pe_callB call_len_str rfl T.b_len PySem.boot_len (pa_cons (pv 0) pa_nil)) pe_int (nomark _)))))
        (pss_one (ps_ret (pe_un un_neg pe_int))) pss_nil)
      (pss_one (ps_ret (pe_callTy call_int_str rfl T.b_int PyProof.Rows.boot_int (pa_cons (pv 0) pa_nil))))), ?_⟩
    refine ⟨_, rfl, _, rfl, hl1, _, _, rfl, rfl, _, rfl, ?_⟩
    have e4 : decide ((4 : Int) < ((sW b).length : Int)) = decide (4 < b.length) := by rw [sW_len, decide_eq_decide]; omega
    rw [e4]
    refine ite2 (fun e => ?_) (fun e => ?_)
    · rw [e, if_pos (by rfl)] at k
      refine iteT ⟨1, rfl, k H (Same.refl H)⟩
    · rw [eq_false_of_ne_true e, Bool.false_or] at k
      have h4 : ¬ 4 < b.length := fun z => e (decide_eq_true z)
      refine ⟨_, rfl, sW b, rfl, fun D hD => ?_⟩
      refine lc_bools (p := fun c => decide (c ∈ DIG.cps.toList)) hlen hD rfl (fun c H' Q' q => ⟨_, rfl, c, DIG, rfl, rfl, q⟩) fun H' hs hd => ?_
      refine ⟨D, _, rfl, SqL.of hd, _, rfl, ?_⟩
      have e5 : ((cod b).map fun c => decide (c ∈ DIG.cps.toList)).all id = b.all isDigit := all_bools sgn_digit
      rw [e5]
      refine ite2 (fun e6 => ?_) (fun e6 => ?_)
      · rw [if_pos e6] at k
        exact ⟨1, rfl, k H' hs⟩
      · rw [if_neg e6] at k
        have hdg : b.all isDigit = true := by simpa using e6
        have e48 : decide (V.str ⟨#[sgn u]⟩ = V.str "0") = decide (u = 48) := by
          have e0 : (("0" : Str)) = sW [48] := by kernel_rfl
          have e1 : (⟨#[sgn u]⟩ : Str) = sW [u] := rfl
          rw [e0, e1, sW_dec (by decide)]; simp
        have hdd : NumText.AllDigits (sW b).cps.toList := by
          rw [sW_list]
          intro x hx
          obtain ⟨y, hy, rfl⟩ := List.mem_map.mp hx
          have hy2 := List.all_eq_true.mp hdg y hy
          have : sgn y = y.toNat := Bt.sgn_nm (by unfold isNm; rw [hy2]; simp)
          rw [this]
          unfold isDigit at hy2
          simp only [Bool.and_eq_true, decide_eq_true_eq] at hy2
          exact ⟨by simpa using UInt8.le_iff_toNat_le.mp hy2.1, by simpa using UInt8.le_iff_toNat_le.mp hy2.2⟩
        have fin : ¬ (b.head? = some 48 ∧ 1 < b.length) → tRet (tCB (fun xs H Q => ∃ a n, xs = [V.str a] ∧ PySem.intText? a = some n ∧ a.length ≤ 640 ∧ Q (.int n) H) (tCons (tVar 0) tNil)) { nx := fun _ H' => Q .non H', rt := Q } [some (.str (sW b)), none] H' := fun hn => by
          rw [if_neg hn] at k
          refine ⟨_, rfl, sW b, _, rfl, intText_digits hdd (by rw [sW_list]; intro z; exact hne (by unfold cod at z; simpa using z)) (by rw [sW_len]; omega), by rw [sW_len]; omega, ?_⟩
          have e7 : NumText.digitsVal (sW b).cps.toList = b.foldl (fun (n : Nat) (c : UInt8) => 10 * n + (c.toNat - 48)) 0 := by
            rw [sW_list]; exact digitsVal_fold b 0 hdg
          rw [e7]
          exact k H' hs
        refine ⟨_, rfl, sW b, 0, sgn u, rfl, rfl, hl1, sW_head hu, rfl, _, rfl, ?_⟩
        rw [e48]
        refine ite2 (fun e8 => ⟨_, rfl, _, rfl, hl1, _, _, rfl, rfl, _, rfl, ?_⟩) (fun e8 => ?_)
        · have e9 : decide ((1 : Int) < ((sW b).length : Int)) = decide (1 < b.length) := by rw [sW_len, decide_eq_decide]; omega
          rw [e9]
          refine ite2 (fun e10 => ?_) (fun e10 => ?_)
          · rw [if_pos ⟨by rw [hu, of_decide_eq_true e8], of_decide_eq_true e10⟩] at k
            exact ⟨1, rfl, k H' hs⟩
          · exact fin fun z => e10 (decide_eq_true z.2)
        · refine iteF ?_
          exact fin fun z => e8 (decide_eq_true (by rw [hu] at z; exact Option.some.inj z.1))
end
end Br
end
section
set_option Elab.async false
set_option linter.all false
set_option maxRecDepth 100000
set_option maxHeartbeats 1000000
namespace Br
open PySem PySem.Spec PyProof.Rows L2 Xc
open Tilt (Word Fault Bytes ascii isName isSmall isDigit)
open Bt (F cod isNm sgn refu)
def spMore (A : Ad) : Sp := fun vs H Q _ => ∃ p e l q, vs = [.ref p] ∧ LnAt A.L H p e l q ∧ Q (.bl (!l.isEmpty)) H
def spTake (A : Ad) : Sp := fun vs H Q E => ∃ p e l q, vs = [.ref p] ∧ LnAt A.L H p e l q ∧ Does A.F [p] H (Tilt.next e l) (fun x v H' => v = wV x.1 ∧ LnAt A.L H' p e x.2 (some x.1.at_) ∧ x.1.w ≠ [] ∧ x.1.w.length ≤ 16384) Q E
def spRefuse (A : Ad) : Sp := fun vs H Q E => ∃ p e l q b k, vs = [.ref p, .bl b, .int ((k : Nat) : Int)] ∧ LnAt A.L H p e l (some q) ∧ Does A.F [] H (refu b k q) (fun _ v H' => v = .non ∧ H' = H) Q E
def spComes (A : Ad) : Sp := fun vs H Q _ => ∃ p e l q s, vs = [.ref p, .str (sW s)] ∧ s.all isNm = true ∧ LnAt A.L H p e l q ∧ Q (.bl (Bt.ifM s l).1) H
def spFixed (A : Ad) : Sp := fun vs H Q E => ∃ p e l q s, vs = [.ref p, .str (sW s)] ∧ s.all isNm = true ∧ LnAt A.L H p e l q ∧ Does A.F [p] H (Bt.fixM e s l) (fun r v H' => v = .non ∧ LnAt A.L H' p e r none) Q E
def spIf (A : Ad) : Sp := fun vs H Q E => ∃ p e l q s, vs = [.ref p, .str (sW s)] ∧ s.all isNm = true ∧ LnAt A.L H p e l q ∧ Does A.F [p] H (.ok (Bt.ifM s l)) (fun x v H' => v = .bl x.1 ∧ LnAt A.L H' p e x.2 none) Q E
def spTName (A : Ad) : Sp := fun vs H Q E => ∃ p e l q, vs = [.ref p] ∧ LnAt A.L H p e l q ∧ Does A.F [p] H (Bt.nameM e l) (fun x v H' => v = wV x.1 ∧ LnAt A.L H' p e x.2 (some x.1.at_)) Q E
def spTNum (A : Ad) : Sp := fun vs H Q E => ∃ p e l q lo hi, vs = [.ref p, .int ((lo : Nat) : Int), .int ((hi : Nat) : Int)] ∧ hi ≤ 9999 ∧ LnAt A.L H p e l q ∧ Does A.F [p] H (Bt.numM e lo hi l) (fun x v H' => v = .int x.1.1 ∧ LnAt A.L H' p e x.2 (some x.1.2)) Q E
def spFinish (A : Ad) : Sp := fun vs H Q E => ∃ p e l q, vs = [.ref p] ∧ LnAt A.L H p e l q ∧ Does A.F [] H (Tilt.closed l) (fun _ v H' => v = .non ∧ H' = H) Q E
abbrev sMore : Stmt := inClass (top 27) 1
abbrev sTake : Stmt := inClass (top 27) 2
abbrev sRefuse : Stmt := inClass (top 27) 3
abbrev sComes : Stmt := inClass (top 27) 4
abbrev sFixed : Stmt := inClass (top 27) 5
abbrev sIf : Stmt := inClass (top 27) 6
abbrev sTName : Stmt := inClass (top 27) 7
abbrev sTNum : Stmt := inClass (top 27) 8
abbrev sFinish : Stmt := inClass (top 27) 9
section
variable {P : Program} {w : World} {K : PySem.W.Frag} {mg : Str → Option Value} {base : Heap} {A : Ad} {f : Addr} {fd : FuncData}
theorem scMore : FnScope ["self"] ["self"] (defScope sMore) := ⟨rfl, rfl, rfl, by decide +kernel, rfl, by decide +kernel, by decide +kernel⟩
theorem ok_more (T : Tx K mg A) (G : Fun K "more" "Line.more" sMore f fd) : FnOk P w K mg base CX0 1 f fd ["self"] (spMore A) := by
  refine G.ok scMore (fun vs H Q E h => ?_) (fun cdv Ar outer s H vs Q E hr h => ?_)
  · obtain ⟨p, e, l, q, rfl, _⟩ := h
    rfl
  · obtain ⟨p, e, l, q, rfl, hL, k⟩ := h
    obtain ⟨dx, a, b, g, all, hp, ha, hb, hl, hg, hq, hw⟩ := id hL.ex
    refine ⟨_, pss_one (ps_ret (pe_cmpR op_lt (pe_fld (pv 0) rfl) (pe_callB call_len_seq rfl T.b_len PySem.boot_len (pa_cons (pe_fld (pv 0) rfl) pa_nil)) (nomark _))), ?_⟩
    refine ⟨_, rfl, p, A.L, dx, _, _, rfl, hp, T.cL, T.nL_given, lf_given, _, rfl, p, A.L, dx, _, _, rfl, hp, T.cL, T.nL_words, lf_words, a, _, rfl, .inl (SqL.of ha), _, _, rfl, rfl, ?_⟩
    have e1 : decide ((g : Int) < ((all.map wV).length : Nat)) = !l.isEmpty := by
      rw [List.length_map, ← hl]
      by_cases c : g < all.length
      · have : (all.drop g).isEmpty = false := by
          rw [List.isEmpty_eq_false_iff]
          intro z
          have := congrArg List.length z
          rw [List.length_drop] at this
          simp at this; omega
        rw [this]; simp; omega
      · have : (all.drop g).isEmpty = true := by
          rw [List.isEmpty_iff]
          exact List.drop_eq_nil_of_le (by omega)
        rw [this]; simp; omega
    show Q (.bl (decide ((g : Int) < ((all.map wV).length : Nat)))) H
    rw [e1]; exact k
theorem scTake : FnScope ["self"] ["self"] (defScope sTake) := ⟨rfl, rfl, rfl, by decide +kernel, rfl, by decide +kernel, by decide +kernel⟩
theorem ok_take (T : Tx K mg A) (mMore : Mt P w K mg base CX0 A.L "more" 1 ["self"] (spMore A)) (G : Fun K "take" "Line.take" sTake f fd) : FnOk P w K mg base (CXF P w A.F) 3 f fd ["self"] (spTake A) := by
  refine G.okF scTake (fun vs H Q E h => ?_) (fun X0 cdv Ar outer s H vs Q E hX hr h => ?_)
  · obtain ⟨p, e, l, q, rfl, _⟩ := h
    rfl
  · obtain ⟨p, e, l, q, rfl, hL, D⟩ := h
    obtain ⟨dx, a, b, g, all, hp, ha, hb, hl, hg, hq, hw⟩ := id hL.ex
    refine ⟨_, pss_cons (ps_if (pt_not (pt_val (pe_mt0 (pv 0) T.cL mMore hr (by decide) pass0))) (pss_one (ps_raise hX T.flt hr rfl rfl (pa_cons (pe_gv rfl T.gWRONG_WORD) (pa_cons (pe_fld (pv 0) rfl) pa_nil)))) pss_nil)
      (pss_cons (ps_fldaug (pv 0) pe_int in_add) (pss_one (ps_ret (pe_ix ix_list (pe_fld (pv 0) rfl) (pe_op op_sub (pe_fld (pv 0) rfl) pe_int) (fun _ _ => rfl))))), ?_⟩
    refine ⟨_, rfl, p, dx, _, rfl, hp, (by kernel_rfl), p, e, l, q, rfl, hL, _, rfl, ?_⟩
    cases l with
    | nil =>
      refine iteT ?_
      exact ⟨_, rfl, p, A.L, dx, _, _, rfl, hp, T.cL, T.nL_end, lf_end, 3, e, rfl, fun dx hd => D.raise (Kp.refl _ _) hd⟩
    | cons w r =>
      refine iteF ?_
      have hgw : all[g]? = some w := by
        have := congrArg (·[0]?) hl
        simpa using this
      have hr2 : all.drop (g + 1) = r := by
        have := congrArg (List.drop 1) hl
        rw [List.drop_drop] at this
        simpa using this
      have hlt : g < all.length := (List.getElem?_eq_some_iff.mp hgw).1
      refine ⟨_, rfl, p, A.L, dx, _, _, rfl, hp, T.cL, T.nL_given, lf_given, _, _, rfl, rfl, dx, _, hp, (by show 4 < 1000; decide), ?_⟩
      rw [lf_put _ (g + 1) (by omega)]
      have npa : a ≠ p := ne_of ha hp (by intro z; cases z)
      have npb : b ≠ p := ne_of hb hp (by intro z; cases z)
      have ha1 : upd H p (.ins A.L dx (lf a b e (g + 1))) a = some (.lst (all.map wV)) := by rw [upd_ne npa]; exact ha
      have hb1 : upd H p (.ins A.L dx (lf a b e (g + 1))) b = some (.lst (all.map fun w => .int w.at_)) := by rw [upd_ne npb]; exact hb
      refine ⟨_, rfl, p, A.L, dx, _, _, rfl, upd_same, T.cL, T.nL_words, lf_words, _, rfl, p, A.L, dx, _, _, rfl, upd_same, T.cL, T.nL_given, lf_given, _, _, rfl, rfl, a, _, _, _, rfl, rfl, SqL.of ha1, at_of (j := g) (v := wV w) (by omega) (by rw [List.getElem?_map, hgw]; rfl), ?_⟩
      refine D.ok (Kp.upd (by simp)) ⟨rfl, ⟨dx, a, b, g + 1, all, upd_same, ha1, hb1, hr2, by omega, fun q z => ⟨w, by simpa using hgw, by cases z; rfl, by omega⟩, hw⟩, hw w (List.mem_of_getElem? hgw)⟩
theorem scRefuse : FnScope ["self", "wrong", "kind"] ["self", "wrong", "kind"] (defScope sRefuse) := ⟨rfl, rfl, rfl, by decide +kernel, rfl, by decide +kernel, by decide +kernel⟩
theorem ok_refuse (T : Tx K mg A) (G : Fun K "refuse_if" "Line.refuse_if" sRefuse f fd) : FnOk P w K mg base (CXF P w A.F) 2 f fd ["self", "wrong", "kind"] (spRefuse A) := by
  refine G.okF scRefuse (fun vs H Q E h => ?_) (fun X0 cdv Ar outer s H vs Q E hX hr h => ?_)
  · obtain ⟨p, e, l, q, b, k, rfl, _⟩ := h
    rfl
  · obtain ⟨p, e, l, q, c, k, rfl, hL, D⟩ := h
    obtain ⟨dx, a, b, g, all, hp, ha, hb, hl, hg, hq, hw⟩ := id hL.ex
    obtain ⟨w, hw1, hw2, hg1⟩ := hq q rfl
    refine ⟨_, pss_one (ps_if (pt_val (pv 1)) (pss_one (ps_raise hX T.flt hr rfl rfl (pa_cons (pv 2) (pa_cons (pe_ix ix_list (pe_fld (pv 0) rfl) (pe_op op_sub (pe_fld (pv 0) rfl) pe_int) (fun _ _ => rfl)) pa_nil)))) pss_nil), ?_⟩
    refine ⟨_, rfl, _, rfl, ?_⟩
    cases c with
    | true =>
      refine iteT ?_
      refine ⟨_, rfl, _, rfl, p, A.L, dx, _, _, rfl, hp, T.cL, T.nL_places, lf_places, _, rfl, p, A.L, dx, _, _, rfl, hp, T.cL, T.nL_given, lf_given, _, _, rfl, rfl, b, _, _, _, rfl, rfl, SqL.of hb, at_of (j := g - 1) (v := V.int q) (by omega) (by rw [List.getElem?_map, hw1, ← hw2]; rfl), k, q, rfl, fun dx hd => D.raise (Kp.refl _ _) hd⟩
    | false =>
      refine iteF ?_
      exact D.ok (Kp.refl _ _) ⟨rfl, rfl⟩
theorem scComes : FnScope ["self", "word"] ["self", "word"] (defScope sComes) := ⟨rfl, rfl, rfl, by decide +kernel, rfl, by decide +kernel, by decide +kernel⟩
theorem ok_comes (T : Tx K mg A) (mMore : Mt P w K mg base CX0 A.L "more" 1 ["self"] (spMore A)) (G : Fun K "comes" "Line.comes" sComes f fd) : FnOk P w K mg base CX0 2 f fd ["self", "word"] (spComes A) := by
  refine G.ok scComes (fun vs H Q E h => ?_) (fun cdv Ar outer s H vs Q E hr h => ?_)
  · obtain ⟨p, e, l, q, s, rfl, _⟩ := h
    rfl
  · obtain ⟨p, e, l, q, s, rfl, hs, hL, k⟩ := h
    obtain ⟨dx, a, b, g, all, hp, ha, hb, hl, hg, hq, hw⟩ := id hL.ex
    refine ⟨_, pss_one (ps_ret (pe_and (pe_mt0 (pv 0) T.cL mMore hr (by decide) pass0) (pe_one (pe_cmpR op_eq (pe_ix ix_list (pe_fld (pv 0) rfl) (pe_fld (pv 0) rfl) (fun _ _ => rfl)) (pv 1) (nomark _))))), ?_⟩
    refine ⟨_, rfl, p, dx, _, rfl, hp, (by kernel_rfl), p, e, l, q, rfl, hL, _, rfl, ?_⟩
    cases l with
    | nil => exact iteF k
    | cons w r =>
      refine iteT ?_
      have hgw : all[g]? = some w := by
        have := congrArg (·[0]?) hl
        simpa using this
      refine ⟨_, rfl, p, A.L, dx, _, _, rfl, hp, T.cL, T.nL_words, lf_words, _, rfl, p, A.L, dx, _, _, rfl, hp, T.cL, T.nL_given, lf_given, a, _, _, _, rfl, rfl, SqL.of ha, at_of (j := g) (v := wV w) (by omega) (by rw [List.getElem?_map, hgw]; rfl), _, rfl, rfl, ?_⟩
      show Q (.bl (decide (V.str (sW w.w) = V.str (sW s)))) H
      rw [sW_dec hs]
      have e1 : (Bt.ifM s (w :: r)).1 = decide (w.w = s) := by
        by_cases c : w.w = s
        · rw [Bt.ifM_t c, decide_eq_true c]
        · rw [Bt.ifM_f c, decide_eq_false c]
      rw [e1] at k
      exact k
theorem scFixed : FnScope ["self", "word"] ["self", "word"] (defScope sFixed) := ⟨rfl, rfl, rfl, by decide +kernel, rfl, by decide +kernel, by decide +kernel⟩
theorem ok_fixed (T : Tx K mg A) (mTake : Mt P w K mg base (CXF P w A.F) A.L "take" 3 ["self"] (spTake A)) (mRef : Mt P w K mg base (CXF P w A.F) A.L "refuse_if" 2 ["self", "wrong", "kind"] (spRefuse A)) (G : Fun K "take_fixed" "Line.take_fixed" sFixed f fd) :
    FnOk P w K mg base (CXF P w A.F) 4 f fd ["self", "word"] (spFixed A) := by
  refine G.okF scFixed (fun vs H Q E h => ?_) (fun X0 cdv Ar outer s H vs Q E hX hr h => ?_)
  · obtain ⟨p, e, l, q, s, rfl, _⟩ := h
    rfl
  · obtain ⟨p, e, l, q, s, rfl, hs, hL, D⟩ := h
    obtain ⟨dx, a, b, g, all, hp, _⟩ := id hL.ex
    have D := D.eq Bt.fix_eq
    refine ⟨_, pss_one (ps_expr (pe_mt (pv 0) T.cL mRef hr (by decide) (passK hX) (pa_cons (pe_cmpR op_ne (pe_mt0 (pv 0) T.cL mTake hr (by decide) (passK hX)) (pv 1) (nomark _)) (pa_cons (pe_gv rfl T.gWRONG_WORD) pa_nil)))), ?_⟩
    refine ⟨_, rfl, p, dx, _, rfl, hp, (by kernel_rfl), _, rfl, p, dx, _, rfl, hp, (by kernel_rfl), p, e, l, q, rfl, hL, D.bind (fun _ k => k) fun x v H1 _ K1 _ P1 D => ?_⟩
    obtain ⟨rfl, hL1, hne, hlen⟩ := P1
    refine ⟨_, rfl, rfl, p, e, x.2, x.1.at_, _, 3, rfl, hL1, ?_⟩
    show Does A.F [] H1 (refu (!decide (V.str (sW x.1.w) = V.str (sW s))) 3 x.1.at_) _ _ _
    rw [sW_dec hs]
    refine D.bind (fun _ k => K1.trans (k.mono (by simp))) fun _ v H2 _ K2 _ P2 D => ?_
    obtain ⟨rfl, rfl⟩ := P2
    exact D.ok K2 ⟨rfl, hL1.weak⟩
theorem scIf : FnScope ["self", "word", "found"] ["self", "word"] (defScope sIf) := ⟨rfl, rfl, rfl, by decide +kernel, rfl, by decide +kernel, by decide +kernel⟩
theorem ok_if (T : Tx K mg A) (mTake : Mt P w K mg base (CXF P w A.F) A.L "take" 3 ["self"] (spTake A)) (mComes : Mt P w K mg base CX0 A.L "comes" 2 ["self", "word"] (spComes A)) (G : Fun K "take_if" "Line.take_if" sIf f fd) :
    FnOk P w K mg base (CXF P w A.F) 4 f fd ["self", "word"] (spIf A) := by
  refine G.okF scIf (fun vs H Q E h => ?_) (fun X0 cdv Ar outer s H vs Q E hX hr h => ?_)
  · obtain ⟨p, e, l, q, s, rfl, _⟩ := h
    rfl
  · obtain ⟨p, e, l, q, s, rfl, hs, hL, D⟩ := h
    obtain ⟨dx, a, b, g, all, hp, _⟩ := id hL.ex
    refine ⟨_, pss_cons (ps_set (i := 2) scIf.nd rfl (Or.inl rfl) (pe_mt (pv 0) T.cL mComes hr (by decide) pass0 (pa_cons (pv 1) pa_nil)))
      (pss_cons (ps_if (pt_val (pv 2)) (pss_one (ps_expr (pe_mt0 (pv 0) T.cL mTake hr (by decide) (passK hX)))) pss_nil) (pss_one (ps_ret (pv 2)))), ?_⟩
    refine ⟨_, rfl, p, dx, _, rfl, hp, (by kernel_rfl), _, rfl, p, e, l, q, s, rfl, hs, hL, ?_⟩
    refine ⟨_, rfl, _, rfl, ?_⟩
    cases l with
    | nil => exact iteF ⟨_, rfl, D.ok (Kp.refl _ _) ⟨rfl, hL.weak⟩⟩
    | cons w r =>
      by_cases c : w.w = s
      · have e1 : Bt.ifM s (w :: r) = (true, r) := Bt.ifM_t c
        rw [e1] at D ⊢
        refine iteT ⟨_, rfl, p, dx, _, rfl, hp, (by kernel_rfl), p, e, w :: r, q, rfl, hL, Does.intro_ok (x := (w, r)) fun v H1 K1 P1 => ?_⟩
        exact ⟨_, rfl, D.ok K1 ⟨rfl, P1.2.1.weak⟩⟩
      · have e1 : Bt.ifM s (w :: r) = (false, w :: r) := Bt.ifM_f c
        rw [e1] at D ⊢
        exact iteF ⟨_, rfl, D.ok (Kp.refl _ _) ⟨rfl, hL.weak⟩⟩
theorem scTName : FnScope ["self", "word"] ["self"] (defScope sTName) := ⟨rfl, rfl, rfl, by decide +kernel, rfl, by decide +kernel, by decide +kernel⟩
theorem ok_tname (T : Tx K mg A) (mTake : Mt P w K mg base (CXF P w A.F) A.L "take" 3 ["self"] (spTake A)) (mRef : Mt P w K mg base (CXF P w A.F) A.L "refuse_if" 2 ["self", "wrong", "kind"] (spRefuse A)) (fName : Fn P w K mg base CX0 "is_name" 1 ["word"] [] spName)
    (G : Fun K "take_name" "Line.take_name" sTName f fd) : FnOk P w K mg base (CXF P w A.F) 4 f fd ["self"] (spTName A) := by
  refine G.okF scTName (fun vs H Q E h => ?_) (fun X0 cdv Ar outer s H vs Q E hX hr h => ?_)
  · obtain ⟨p, e, l, q, rfl, _⟩ := h
    rfl
  · obtain ⟨p, e, l, q, rfl, hL, D⟩ := h
    obtain ⟨dx, a, b, g, all, hp, _⟩ := id hL.ex
    have D := D.eq Bt.name_eq
    refine ⟨_, pss_cons (ps_set (i := 1) scTName.nd rfl (Or.inl rfl) (pe_mt0 (pv 0) T.cL mTake hr (by decide) (passK hX)))
      (pss_cons (ps_expr (pe_mt (pv 0) T.cL mRef hr (by decide) (passK hX) (pa_cons (pe_not (pe_fn fName hr (by decide) rfl pass0 (pa_cons (pv 1) pa_nil))) (pa_cons (pe_gv rfl T.gWRONG_FORM) pa_nil)))) (pss_one (ps_ret (pv 1)))), ?_⟩
    refine ⟨_, rfl, p, dx, _, rfl, hp, (by kernel_rfl), p, e, l, q, rfl, hL, D.bind (fun _ k => k) fun x v H1 _ K1 _ P1 D => ?_⟩
    obtain ⟨rfl, hL1, hne, hlen⟩ := P1
    obtain ⟨dx1, a1, b1, g1, all1, hp1, _⟩ := id hL1.ex
    refine ⟨_, rfl, p, dx1, _, rfl, hp1, (by kernel_rfl), _, rfl, x.1.w, rfl, hne, hlen, fun H2 s2 => ⟨_, rfl, ?_⟩⟩
    have hL2 := hL1.keep (Kp.same.mpr s2) (by simp) (by simp)
    refine ⟨p, e, x.2, x.1.at_, _, 4, rfl, hL2, D.bind (fun _ k => (K1.trans ((Kp.same.mpr s2).mono (by simp))).trans (k.mono (by simp))) fun _ v H3 _ K3 _ P3 D => ?_⟩
    obtain ⟨rfl, rfl⟩ := P3
    exact ⟨_, rfl, D.ok K3 ⟨rfl, hL2⟩⟩
theorem scTNum : FnScope ["self", "low", "high", "number"] ["self", "low", "high"] (defScope sTNum) := ⟨rfl, rfl, rfl, by decide +kernel, rfl, by decide +kernel, by decide +kernel⟩
theorem ok_tnum (T : Tx K mg A) (mTake : Mt P w K mg base (CXF P w A.F) A.L "take" 3 ["self"] (spTake A)) (mRef : Mt P w K mg base (CXF P w A.F) A.L "refuse_if" 2 ["self", "wrong", "kind"] (spRefuse A)) (fNum : Fn P w K mg base CX0 "number_of" 1 ["word"] [] spNum)
    (G : Fun K "take_number" "Line.take_number" sTNum f fd) : FnOk P w K mg base (CXF P w A.F) 4 f fd ["self", "low", "high"] (spTNum A) := by
  refine G.okF scTNum (fun vs H Q E h => ?_) (fun X0 cdv Ar outer s H vs Q E hX hr h => ?_)
  · obtain ⟨p, e, l, q, lo, hi, rfl, _⟩ := h
    rfl
  · obtain ⟨p, e, l, q, lo, hi, rfl, hh, hL, D⟩ := h
    obtain ⟨dx, a, b, g, all, hp, _⟩ := id hL.ex
    have D := D.eq (Bt.num_eq hh)
    refine ⟨_, pss_cons (ps_set (i := 3) scTNum.nd rfl (Or.inl rfl) (pe_fn fNum hr (by decide) rfl pass0 (pa_cons (pe_mt0 (pv 0) T.cL mTake hr (by decide) (passK hX)) pa_nil)))
      (pss_cons (ps_expr (pe_mt (pv 0) T.cL mRef hr (by decide) (passK hX) (pa_cons (pe_or (pe_cmpR op_lt (pv 3) (pv 1) (nomark _)) (pe_one (pe_cmpR op_gt (pv 3) (pv 2) (nomark _)))) (pa_cons (pe_gv rfl T.gWRONG_FORM) pa_nil)))) (pss_one (ps_ret (pv 3)))), ?_⟩
    refine ⟨_, rfl, p, dx, _, rfl, hp, (by kernel_rfl), p, e, l, q, rfl, hL, D.bind (fun _ k => k) fun x v H1 _ K1 _ P1 D => ?_⟩
    obtain ⟨rfl, hL1, hne, hlen⟩ := P1
    refine ⟨x.1.w, rfl, hne, hlen, fun H2 s2 => ?_⟩
    have hL2 := hL1.keep (Kp.same.mpr s2) (by simp) (by simp)
    obtain ⟨dx2, a2, b2, g2, all2, hp2, _⟩ := id hL2.ex
    have K2 := K1.trans ((Kp.same.mpr s2).mono (S' := [p]) (by simp))
    refine ⟨_, rfl, p, dx2, _, rfl, hp2, (by kernel_rfl), _, rfl, _, rfl, _, _, rfl, rfl, _, rfl, ?_⟩
    have fin : ∀ c : Bool, c = (decide (Bt.numPy x.1.w < (lo : Int)) || decide ((hi : Int) < Bt.numPy x.1.w)) → Does A.F [] H2 (refu c 4 x.1.at_) (fun _ v H' => v = .non ∧ H' = H2) (fun _ H' => ∃ v, ([some (V.ref p), some (V.int lo), some (V.int hi), some (V.int (Bt.numPy x.1.w))] : L2.St)[3]? = some (some v) ∧ Q v H') E := fun c hc => by
      subst hc
      refine D.bind (fun _ k => K2.trans (k.mono (by simp))) fun u v H3 hu K3 _ P3 D => ?_
      obtain ⟨rfl, rfl⟩ := P3
      have hf := Bt.refu_false hu
      exact ⟨_, rfl, D.ok K3 ⟨by rw [Bt.num_nn (e := 0) hf], hL2⟩⟩
    refine ite2 (fun c1 => ?_) (fun c1 => ⟨_, rfl, _, rfl, _, _, rfl, rfl, ?_⟩)
    · exact ⟨p, e, x.2, x.1.at_, _, 4, rfl, hL2, fin true (by rw [c1]; rfl)⟩
    · exact ⟨p, e, x.2, x.1.at_, _, 4, rfl, hL2, fin _ (by rw [eq_false_of_ne_true c1]; rfl)⟩
theorem scFinish : FnScope ["self"] ["self"] (defScope sFinish) := ⟨rfl, rfl, rfl, by decide +kernel, rfl, by decide +kernel, by decide +kernel⟩
theorem ok_finish (T : Tx K mg A) (mMore : Mt P w K mg base CX0 A.L "more" 1 ["self"] (spMore A)) (G : Fun K "finish" "Line.finish" sFinish f fd) : FnOk P w K mg base (CXF P w A.F) 2 f fd ["self"] (spFinish A) := by
  refine G.okF scFinish (fun vs H Q E h => ?_) (fun X0 cdv Ar outer s H vs Q E hX hr h => ?_)
  · obtain ⟨p, e, l, q, rfl, _⟩ := h
    rfl
  · obtain ⟨p, e, l, q, rfl, hL, D⟩ := h
    obtain ⟨dx, a, b, g, all, hp, ha, hb, hl, hg, hq, hw⟩ := id hL.ex
    refine ⟨_, pss_one (ps_if (pt_val (pe_mt0 (pv 0) T.cL mMore hr (by decide) pass0)) (pss_one (ps_raise hX T.flt hr rfl rfl (pa_cons (pe_gv rfl T.gWRONG_WORD) (pa_cons (pe_ix ix_list (pe_fld (pv 0) rfl) (pe_fld (pv 0) rfl) (fun _ _ => rfl)) pa_nil)))) pss_nil), ?_⟩
    refine ⟨_, rfl, p, dx, _, rfl, hp, (by kernel_rfl), p, e, l, q, rfl, hL, _, rfl, ?_⟩
    cases l with
    | nil => exact iteF (D.ok (Kp.refl _ _) ⟨rfl, rfl⟩)
    | cons w r =>
      refine iteT ?_
      have hgw : all[g]? = some w := by
        have := congrArg (·[0]?) hl
        simpa using this
      exact ⟨_, rfl, p, A.L, dx, _, _, rfl, hp, T.cL, T.nL_places, lf_places, _, rfl, p, A.L, dx, _, _, rfl, hp, T.cL, T.nL_given, lf_given, b, _, _, _, rfl, rfl, SqL.of hb, at_of (j := g) (v := V.int w.at_) (by omega) (by rw [List.getElem?_map, hgw]; rfl), 3, w.at_, rfl, fun dx hd => D.raise (Kp.refl _ _) hd⟩
def spLnInit (A : Ad) : Sp := fun vs H Q _ => ∃ (x dx a b : Addr) (e : Nat), vs = [.ref x, .ref a, .ref b, .int e] ∧ H x = some (.ins A.L dx []) ∧ ∀ H', Kp [x] H H' → H' x = some (.ins A.L dx (lf a b e 0)) → Q .non H'
abbrev sLnInit : Stmt := inClass (top 27) 0
theorem scLnInit : FnScope ["self", "words", "places", "end"] ["self", "words", "places", "end"] (defScope sLnInit) := ⟨rfl, rfl, rfl, by decide +kernel, rfl, by decide +kernel, by decide +kernel⟩
theorem ok_lninit (T : Tx K mg A) (G : Fun K "__init__" "Line.__init__" sLnInit f fd) : FnOk P w K mg base CX0 1 f fd ["self", "words", "places", "end"] (spLnInit A) := by
  refine G.ok scLnInit (fun vs H Q E h => ?_) (fun cdv Ar outer s H vs Q E hr h => ?_)
  · obtain ⟨x, dx, a, b, e, rfl, _⟩ := h
    rfl
  · obtain ⟨x, dx, a, b, e, rfl, hx, k⟩ := h
    refine ⟨_, pss_cons (ps_fld (pv 0) (pv 1) rfl) (pss_cons (ps_fld (pv 0) (pv 2) rfl) (pss_cons (ps_fld (pv 0) (pv 3) rfl) (pss_one (ps_fld (pv 0) pe_int rfl)))), ?_⟩
    refine ⟨_, rfl, _, rfl, x, A.L, dx, _, rfl, hx, T.cL, T.nL_words, (by show 0 < 1000; decide), ?_⟩
    refine ⟨_, rfl, _, rfl, x, A.L, dx, _, rfl, upd_same, T.cL, T.nL_places, lt_put (Nat.le_refl 0), ?_⟩
    refine ⟨_, rfl, _, rfl, x, A.L, dx, _, rfl, upd_same, T.cL, T.nL_end, lt_put (len_put (Nat.le_refl 0)), ?_⟩
    refine ⟨_, rfl, x, A.L, dx, _, rfl, upd_same, T.cL, T.nL_given, lt_put (len_put (len_put (Nat.le_refl 0))), ?_⟩
    rw [upd_upd, upd_upd, upd_upd]
    exact k _ (Kp.upd (by simp)) (upd_same.trans (congrArg (fun q => some (HO.ins A.L dx q)) (by kernel_rfl)))
end
end Br
end
section
set_option Elab.async false
set_option linter.all false
set_option maxRecDepth 100000
set_option maxHeartbeats 1000000
namespace Br
open PySem PySem.Spec PyProof.Rows L2 Xc
open Tilt (Word Fault Bytes ascii isName isSmall isDigit)
open Bt (F cod isNm sgn refu cutB)
def bV (c : UInt8) : V := .int c.toNat
theorem bV_at {b : Bytes} {i : Nat} {z : Int} {c : UInt8} (e : z = (i : Int)) (h : b[i]? = some c) : atI (b.map bV) z = some (.int c.toNat) := at_of e (by rw [List.getElem?_map, h]; rfl)
def spEnd (A : Ad) : Sp := fun vs H Q E => ∃ (a : Addr) (p : Nat) (b : Bytes), vs = [.ref a, .int p] ∧ H a = some (.lst (b.map bV)) ∧ p ≤ b.length ∧ Does A.F [] H (Bt.endM b p) (fun n v H' => v = .int n ∧ H' = H) Q E
def spChk (A : Ad) : Sp := fun vs H Q E => ∃ (a : Addr) (p n : Nat) (b : Bytes), vs = [.ref a, .int p, .int n] ∧ H a = some (.lst (b.map bV)) ∧ n < b.length ∧ p ≤ n ∧ b.length ≤ 16384 ∧ Does A.F [] H (Bt.chkM b p n) (fun _ v H' => v = .non ∧ H' = H) Q E
def spPlaces : Sp := fun vs H Q _ => ∃ (a : Addr) (p n : Nat) (b : Bytes), vs = [.ref a, .int p, .int n] ∧ H a = some (.lst (b.map bV)) ∧ n < b.length ∧ p ≤ n ∧ b.length ≤ 16384 ∧
  ∀ q H', Same H H' → H q = none → H' q = some (.lst ((Bt.placesF true p (cutB b p n)).map fun (k : Nat) => V.int k)) → Q (.ref q) H'
section
variable {P : Program} {w : World} {K : PySem.W.Frag} {mg : Str → Option Value} {base : Heap} {A : Ad} {f : Addr} {fd : FuncData}
theorem scEnd : FnScope ["text", "start", "end"] ["text", "start"] (defScope (top 28)) := ⟨rfl, rfl, rfl, by decide +kernel, rfl, by decide +kernel, by decide +kernel⟩
theorem ok_end (T : Tx K mg A) (G : Fun K "end_of_line" "end_of_line" (top 28) f fd) : FnOk P w K mg base (CXF P w A.F) 2 f fd ["text", "start"] (spEnd A) := by
  refine G.okF scEnd (fun vs H Q E h => ?_) (fun X0 cdv Ar outer s H vs Q E hX hr h => ?_)
  · obtain ⟨a, p, b, rfl, _⟩ := h
    rfl
  · obtain ⟨a, p, b, rfl, ha, hp, D⟩ := h
    have own := ownK (C := A.F) (E := E) hX top_cxOf
    refine ⟨_, pss_cons (ps_set (i := 2) scEnd.nd rfl (Or.inl rfl) (pv 1))
      (pss_cons (ps_while own (PW.pt (pw_and (pt_cmpR op_lt (pv 2) (pe_callB call_len_seq rfl T.b_len PySem.boot_len (pa_cons (pv 0) pa_nil)) (nomark _)) (pw_and1 (pt_cmpR op_ne (pe_ix ix_list (pv 0) (pv 2) (fun _ _ => rfl)) (pe_gv rfl T.gNEWLINE) (nomark _))))) (pss_one (ps_aug (i := 2) scEnd.nd rfl (Or.inl rfl) pe_int ip_add)))
      (pss_cons (ps_if (pt_cmpR op_eq (pv 2) (pe_callB call_len_seq rfl T.b_len PySem.boot_len (pa_cons (pv 0) pa_nil)) (nomark _)) (pss_one (ps_raise hX T.flt hr rfl rfl (pa_cons (pe_gv rfl T.gNOT_ENDED) (pa_cons (pv 2) pa_nil)))) pss_nil) (pss_one (ps_ret (pv 2))))), ?_⟩
    refine ⟨_, rfl, ?_⟩
    refine ⟨fun m σ H' => H' = H ∧ ∃ n : Nat, m = b.length - n ∧ σ = [some (.ref a), some (.int p), some (.int n)] ∧ p ≤ n ∧ n ≤ b.length ∧ ∀ k, p ≤ k → k < n → b[k]? ≠ some 10, ⟨_, rfl, p, rfl, rfl, Nat.le_refl _, hp, fun k h1 h2 => by omega⟩, ?_⟩
    rintro m σ H' ⟨rfl, n, rfl, rfl, h1, h2, h3⟩
    have fin : (n = b.length ∨ b[n]? = some 10) → tIfS (tTest (tOp rEq (tVar 2) (tCB (fun xs H Q => ∃ p ys, xs = [V.ref p] ∧ (SqL K H p ys ∨ SqT K H p ys) ∧ Q (.int ys.length) H) (tCons (tVar 0) tNil)))) (sRaise A.F E (tCons (tC (.int 1)) (tCons (tVar 2) tNil))) tNext
        { nx := tRet (tVar 2) { nx := fun _ H' => Q .non H', rt := Q }, rt := Q } [some (.ref a), some (.int p), some (.int n)] H' := fun hn => by
      refine ⟨_, rfl, _, rfl, a, _, rfl, .inl (SqL.of ha), rfl, _, rfl, ?_⟩
      rw [dInt, List.length_map]
      refine ite2 (fun e => ?_) (fun e => ?_)
      · have e' : n = b.length := by have := of_decide_eq_true e; omega
        subst e'
        rw [Bt.endM_none h3] at D
        exact ⟨_, rfl, 1, _, rfl, fun dx hd => D.raise (Kp.refl _ _) hd⟩
      · have e' : ¬ n = b.length := fun z => e (decide_eq_true (by omega))
        rw [Bt.endM_at h1 h3 (hn.resolve_left e')] at D
        exact ⟨_, rfl, D.ok (Kp.refl _ _) ⟨rfl, rfl⟩⟩
    refine ⟨_, rfl, _, rfl, a, _, rfl, .inl (SqL.of ha), _, _, rfl, rfl, _, rfl, ?_⟩
    rw [List.length_map]
    refine ite2 (fun e => ?_) (fun e => ?_)
    · have e' : n < b.length := by have := of_decide_eq_true e; omega
      obtain ⟨c, hc⟩ : ∃ c, b[n]? = some c := ⟨_, List.getElem?_eq_getElem e'⟩
      refine ⟨_, rfl, _, rfl, a, _, _, _, rfl, rfl, SqL.of ha, bV_at rfl hc, rfl, _, rfl, ?_⟩
      rw [dInt]
      refine ite2 (fun e2 => ?_) (fun e2 => ?_)
      · refine ⟨_, fun σ' H' z => ⟨b.length - (n + 1), by omega, z⟩, _, rfl, _, _, rfl, rfl, ⟨rfl, n + 1, rfl, rfl, by omega, by omega, fun k k1 k2 => ?_⟩⟩
        · by_cases z : k = n
          · subst z
            rw [hc]
            intro y
            have : c = 10 := Option.some.inj y
            subst this
            simp at e2
          · exact h3 k k1 (by omega)
      · refine fin (.inr ?_)
        have : (c.toNat : Int) = 10 := by simpa using e2
        rw [hc]
        congr 1
        exact UInt8.toNat_inj.mp (by show c.toNat = 10; omega)
    · refine iteF ?_
      exact fin (.inl (by have : ¬ ((n : Int) < (b.length : Int)) := fun z => e (decide_eq_true z); omega))
theorem scChk : FnScope ["text", "start", "end", "place", "byte"] ["text", "start", "end"] (defScope (top 29)) := ⟨rfl, rfl, rfl, by decide +kernel, rfl, by decide +kernel, by decide +kernel⟩
theorem ok_chk (T : Tx K mg A) (G : Fun K "check_bytes" "check_bytes" (top 29) f fd) : FnOk P w K mg base (CXF P w A.F) 2 f fd ["text", "start", "end"] (spChk A) := by
  refine G.okF scChk (fun vs H Q E h => ?_) (fun X0 cdv Ar outer s H vs Q E hX hr h => ?_)
  · obtain ⟨a, p, n, b, rfl, _⟩ := h
    rfl
  · obtain ⟨a, p, n, b, rfl, ha, hn, hp, hlen, D⟩ := h
    have own := ownK (C := A.F) (E := E) hX top_cxOf
    refine ⟨_, pss_one (ps_for own rfl (pi_range2 rfl T.b_range (pa_cons (pv 1) (pa_cons (pv 2) pa_nil))) (pg_name (i := 3) scChk.nd rfl (Or.inl rfl))
      (pss_cons (ps_set (i := 4) scChk.nd rfl (Or.inl rfl) (pe_ix ix_list (pv 0) (pv 3) (fun _ _ => rfl)))
      (pss_cons (ps_if (PW.pt (pw_or (pt_cmpR op_lt (pv 4) (pe_gv rfl T.gBLANK) (nomark _)) (pw_or1 (pt_cmpR op_gt (pv 4) (pe_gv rfl T.gLAST_SIGN) (nomark _))))) (pss_one (ps_raise hX T.flt hr rfl rfl (pa_cons (pe_gv rfl T.gWRONG_BYTE) (pa_cons (pv 3) pa_nil)))) pss_nil)
      (pss_one (ps_if (PW.pt (pw_and (pt_cmpR op_eq (pv 4) (pe_gv rfl T.gBLANK) (nomark _)) (pw_and1 (PW.pt (pw_or (pt_cmpR op_eq (pv 3) (pv 1) (nomark _)) (pw_or (pt_cmpR op_eq (pe_ix ix_list (pv 0) (pe_op op_sub (pv 3) pe_int) (fun _ _ => rfl)) (pe_gv rfl T.gBLANK) (nomark _)) (pw_or1 (pt_cmpR op_eq (pe_op op_add (pv 3) pe_int) (pv 2) (nomark _)))))))))
        (pss_one (ps_raise hX T.flt hr rfl rfl (pa_cons (pe_gv rfl T.gWRONG_BYTE) (pa_cons (pv 3) pa_nil)))) pss_nil))))), ?_⟩
    refine ⟨_, rfl, _, rfl, p, n, rfl, ⟨by omega, by omega, by omega, by omega⟩, ?_⟩
    have en : ((n : Int) - (p : Int)).toNat = n - p := by omega
    rw [en]
    refine for_range (lo := (p : Int)) (n := n - p) (fun i σ H' => H' = H ∧ (∃ v3 v4, σ = [some (.ref a), some (.int p), some (.int n), v3, v4]) ∧ ∀ k, k < i → Bt.badAt (cutB b p n) k = false) ⟨rfl, ⟨none, none, rfl⟩, fun k hk => by omega⟩ ?_ ?_
    · rintro i σ H' hi ⟨rfl, ⟨v3, v4, rfl⟩, hb⟩
      obtain ⟨c, hc⟩ : ∃ c, b[p + i]? = some c := ⟨_, List.getElem?_eq_getElem (by omega)⟩
      have hpy := Bt.badAt_py (Nat.le_of_lt hn) hi hc
      have hz : (p : Int) + (i : Int) = ((p + i : Nat) : Int) := by omega
      have bad : Bt.badAt (cutB b p n) i = true → ∀ dx, H' dx = none → E (.ref A.F) (some dx) (upd H' dx (.xd (ff 2 ((p : Int) + (i : Int))))) := fun hbad dx hd => by
        rw [Bt.chk_bad (Nat.le_of_lt hn) hi hbad hb] at D
        rw [hz]
        exact D.raise (Kp.refl _ _) hd
      have good : Bt.badAt (cutB b p n) i = false → H' = H' ∧ (∃ v3 v4, ([some (.ref a), some (.int p), some (.int n), some (.int ((p : Int) + (i : Int))), some (.int c.toNat)] : L2.St) = [some (.ref a), some (.int p), some (.int n), v3, v4]) ∧ ∀ k, k < i + 1 → Bt.badAt (cutB b p n) k = false := fun hg =>
        ⟨rfl, ⟨_, _, rfl⟩, fun k hk => by
          by_cases z : k = i
          · rw [z]; exact hg
          · exact hb k (by omega)⟩
      refine ⟨_, rfl, _, rfl, a, _, _, _, rfl, rfl, SqL.of ha, bV_at hz hc, ?_⟩
      have d1 : decide ((c.toNat : Int) < 32) = decide (c.toNat < 32) := by rw [decide_eq_decide]; omega
      have d2 : decide ((126 : Int) < c.toNat) = decide (126 < c.toNat) := by rw [decide_eq_decide]; omega
      have d3 : decide ((c.toNat : Int) = 32) = decide (c.toNat = 32) := by rw [decide_eq_decide]; omega
      have part2 : (decide (c.toNat < 32) || decide (126 < c.toNat)) = false → tIfS (tAnd (tTest (tOp rEq (tVar 4) (tC (.int 32)))) (tOr (tTest (tOp rEq (tVar 3) (tVar 1))) (tOr (tTest (tOp rEq (tOp (rIxL K) (tVar 0) (tOp (rI0 fun i j => .int (i - j)) (tVar 3) (tC (.int 1)))) (tC (.int 32)))) (tTest (tOp rEq (tOp (rI0 fun i j => .int (i + j)) (tVar 3) (tC (.int 1))) (tVar 2))))))
          (sRaise A.F E (tCons (tC (.int 2)) (tCons (tVar 3) tNil))) tNext { nx := fun σ H'' => H'' = H' ∧ (∃ v3 v4, σ = [some (.ref a), some (.int p), some (.int n), v3, v4]) ∧ ∀ k, k < i + 1 → Bt.badAt (cutB b p n) k = false, rt := Q, bk := fun _ H' => Q .non H', ct := fun σ H'' => H'' = H' ∧ (∃ v3 v4, σ = [some (.ref a), some (.int p), some (.int n), v3, v4]) ∧ ∀ k, k < i + 1 → Bt.badAt (cutB b p n) k = false }
          [some (.ref a), some (.int p), some (.int n), some (.int ((p : Int) + (i : Int))), some (.int c.toNat)] H' := fun hf => by
        rw [hf, Bool.false_or] at hpy
        refine ⟨_, rfl, rfl, _, rfl, ?_⟩
        rw [dInt, d3]
        refine ite2 (fun e => ?_) (fun e => ?_)
        · rw [e, Bool.true_and] at hpy
          refine ⟨_, rfl, _, rfl, rfl, _, rfl, ?_⟩
          rw [dInt]
          have e0 : decide ((p : Int) + (i : Int) = (p : Int)) = decide (i = 0) := by rw [decide_eq_decide]; omega
          rw [e0]
          refine ite2 (fun e1 => ?_) (fun e1 => ?_)
          · rw [e1, Bool.true_or] at hpy
            exact iteT ⟨_, rfl, 2, _, rfl, bad hpy⟩
          · rw [eq_false_of_ne_true e1, Bool.false_or] at hpy
            have hi0 : ¬ i = 0 := fun z => e1 (decide_eq_true z)
            obtain ⟨d, hd⟩ : ∃ d, b[p + i - 1]? = some d := ⟨_, List.getElem?_eq_getElem (by omega)⟩
            refine ⟨_, rfl, _, rfl, _, _, rfl, rfl, a, _, _, _, rfl, rfl, SqL.of ha, bV_at (i := p + i - 1) (by omega) hd, rfl, _, rfl, ?_⟩
            rw [dInt]
            have e2 : decide ((d.toNat : Int) = 32) = decide (b[p + i - 1]? = some 32) := by
              rw [hd, decide_eq_decide]
              exact ⟨fun z => by congr 1; exact UInt8.toNat_inj.mp (by show d.toNat = 32; omega), fun z => by rw [Option.some.inj z]; rfl⟩
            rw [e2]
            refine ite2 (fun e3 => ?_) (fun e3 => ?_)
            · rw [e3, Bool.true_or] at hpy
              exact iteT ⟨_, rfl, 2, _, rfl, bad hpy⟩
            · rw [eq_false_of_ne_true e3, Bool.false_or] at hpy
              refine ⟨_, rfl, _, _, rfl, rfl, _, rfl, rfl, _, rfl, ?_⟩
              rw [dInt]
              have e4 : decide ((p : Int) + (i : Int) + 1 = (n : Int)) = decide (p + i + 1 = n) := by rw [decide_eq_decide]; omega
              rw [e4]
              refine ite2 (fun e5 => ?_) (fun e5 => ?_)
              · rw [e5] at hpy
                exact ⟨_, rfl, 2, _, rfl, bad hpy⟩
              · rw [eq_false_of_ne_true e5] at hpy
                exact good hpy
        · rw [eq_false_of_ne_true e, Bool.false_and] at hpy
          exact iteF (good hpy)
      refine ⟨_, rfl, _, _, rfl, rfl, _, rfl, ?_⟩
      rw [d1]
      refine ite2 (fun e => ?_) (fun e => ?_)
      · rw [e, Bool.true_or, Bool.true_or] at hpy
        exact iteT ⟨_, rfl, 2, _, rfl, bad hpy⟩
      · refine ⟨_, rfl, _, _, rfl, rfl, _, rfl, ?_⟩
        rw [d2]
        refine ite2 (fun e1 => ?_) (fun e1 => ?_)
        · rw [e1, Bool.or_true, Bool.true_or] at hpy
          exact ⟨_, rfl, 2, _, rfl, bad hpy⟩
        · exact part2 (by rw [eq_false_of_ne_true e, eq_false_of_ne_true e1]; rfl)
    · rintro σ H' ⟨rfl, _, hb⟩
      rw [Bt.chk_good (Nat.le_of_lt hn) hb] at D
      exact D.ok (Kp.refl _ _) ⟨rfl, rfl⟩
theorem scPlaces : FnScope ["text", "start", "end", "places", "place"] ["text", "start", "end"] (defScope (top 30)) := ⟨rfl, rfl, rfl, by decide +kernel, rfl, by decide +kernel, by decide +kernel⟩
theorem places_le (f : Bool) (p : Nat) (l : Bytes) : (Bt.placesF f p l).length ≤ l.length := by
  induction l generalizing f p with
  | nil => simp [Bt.placesF]
  | cons c r ih =>
    unfold Bt.placesF
    rw [List.length_append, List.length_cons]
    have := ih (c == 32) (p + 1)
    split <;> simp <;> omega
theorem ok_places (T : Tx K mg A) (G : Fun K "places_of_words" "places_of_words" (top 30) f fd) : FnOk P w K mg base CX0 1 f fd ["text", "start", "end"] spPlaces := by
  refine G.ok scPlaces (fun vs H Q E h => ?_) (fun cdv Ar outer s H vs Q E hr h => ?_)
  · obtain ⟨a, p, n, b, rfl, _⟩ := h
    rfl
  · obtain ⟨a, p, n, b, rfl, ha, hn, hp, hlen, k⟩ := h
    refine ⟨_, pss_cons (ps_set (i := 3) scPlaces.nd rfl (Or.inl rfl) (pe_lst pa_nil))
      (pss_cons (ps_for PassesOwn.never rfl (pi_range2 rfl T.b_range (pa_cons (pv 1) (pa_cons (pv 2) pa_nil))) (pg_name (i := 4) scPlaces.nd rfl (Or.inl rfl))
        (pss_one (ps_if (PW.pt (pw_or (pt_cmpR op_eq (pv 4) (pv 1) (nomark _)) (pw_or1 (pt_cmpR op_eq (pe_ix ix_list (pv 0) (pe_op op_sub (pv 4) pe_int) (fun _ _ => rfl)) (pe_gv rfl T.gBLANK) (nomark _)))))
          (pss_one (ps_expr (pe_bm PySem.F.plainAttrs_list PySem.F.slot_list_append PySem.F.type_list_append mt_append (pv 3) (pa_cons (pv 4) pa_nil)))) pss_nil)))
      (pss_one (ps_ret (pv 3)))), ?_⟩
    refine ⟨Nat.zero_le _, fun q hq => ?_⟩
    have s0 : Same H (upd H q (.lst [])) := Kp.same.mp (Kp.new hq)
    refine ⟨_, rfl, _, rfl, p, n, rfl, ⟨by omega, by omega, by omega, by omega⟩, ?_⟩
    have en : ((n : Int) - (p : Int)).toNat = n - p := by omega
    rw [en]
    refine for_range (lo := (p : Int)) (n := n - p) (fun i σ H' => Same H H' ∧ (∃ v4, σ = [some (.ref a), some (.int p), some (.int n), some (.ref q), v4]) ∧ H' q = some (.lst ((Bt.placesF true p ((cutB b p n).take i)).map fun (k : Nat) => V.int k))) ⟨s0, ⟨none, rfl⟩, upd_same⟩ ?_ ?_
    · rintro i σ H' hi ⟨hs, ⟨v4, rfl⟩, hq'⟩
      obtain ⟨c, hc⟩ : ∃ c, b[p + i]? = some c := ⟨_, List.getElem?_eq_getElem (by omega)⟩
      have hst := Bt.places_step hi hc
      have ha' := hs _ _ ha
      have hlq : (Bt.placesF true p ((cutB b p n).take i)).length ≤ 16384 := Nat.le_trans (places_le _ _ _) (by rw [List.length_take]; have := Bt.cutB_len (p := p) (Nat.le_of_lt hn); omega)
      have add : (decide (i = 0) || decide (b[p + i - 1]? = some 32)) = true → tDrop (tBM K "list" rAppend (tVar 3) (tCons (tVar 4) tNil)) { nx := fun σ H' => Same H H' ∧ (∃ v4, σ = [some (.ref a), some (.int p), some (.int n), some (.ref q), v4]) ∧ H' q = some (.lst ((Bt.placesF true p ((cutB b p n).take (i + 1))).map fun (k : Nat) => V.int k)), rt := Q, bk := fun σ H' => tRet (tVar 3) { nx := fun _ H' => Q .non H', rt := Q } σ H', ct := fun σ H' => Same H H' ∧ (∃ v4, σ = [some (.ref a), some (.int p), some (.int n), some (.ref q), v4]) ∧ H' q = some (.lst ((Bt.placesF true p ((cutB b p n).take (i + 1))).map fun (k : Nat) => V.int k)) }
          [some (.ref a), some (.int p), some (.int n), some (.ref q), some (.int ((p : Int) + (i : Int)))] H' := fun ht => by
        rw [ht, if_pos rfl] at hst
        refine ⟨_, rfl, .inl ⟨rfl, _, SqL.of hq'⟩, _, rfl, q, _, _, rfl, rfl, hq', by rw [List.length_map, sizeLine_eq]; omega, ?_⟩
        refine ⟨fun b o e => by rw [upd_ne (ne_of_none e hq)]; exact hs b o e, ⟨_, rfl⟩, ?_⟩
        rw [upd_same, hst, List.map_append]
        have hz : (p : Int) + (i : Int) = ((p + i : Nat) : Int) := by omega
        rw [hz]; rfl
      have keep : (decide (i = 0) || decide (b[p + i - 1]? = some 32)) = false → Same H H' ∧ (∃ v4, ([some (.ref a), some (.int p), some (.int n), some (.ref q), some (.int ((p : Int) + (i : Int)))] : L2.St) = [some (.ref a), some (.int p), some (.int n), some (.ref q), v4]) ∧ H' q = some (.lst ((Bt.placesF true p ((cutB b p n).take (i + 1))).map fun (k : Nat) => V.int k)) := fun hf => by
        rw [hf, if_neg (by decide), List.append_nil] at hst
        exact ⟨hs, ⟨_, rfl⟩, by rw [hst]; exact hq'⟩
      refine ⟨_, rfl, _, rfl, rfl, _, rfl, ?_⟩
      rw [dInt]
      have e0 : decide ((p : Int) + (i : Int) = (p : Int)) = decide (i = 0) := by rw [decide_eq_decide]; omega
      rw [e0]
      refine ite2 (fun e1 => iteT (add (by rw [e1]; rfl))) (fun e1 => ?_)
      have hi0 : ¬ i = 0 := fun z => e1 (decide_eq_true z)
      obtain ⟨d, hd⟩ : ∃ d, b[p + i - 1]? = some d := ⟨_, List.getElem?_eq_getElem (by omega)⟩
      refine ⟨_, rfl, _, rfl, _, _, rfl, rfl, a, _, _, _, rfl, rfl, SqL.of ha', bV_at (i := p + i - 1) (by omega) hd, rfl, _, rfl, ?_⟩
      rw [dInt]
      have e2 : decide ((d.toNat : Int) = 32) = decide (b[p + i - 1]? = some 32) := by
        rw [hd, decide_eq_decide]
        exact ⟨fun z => by congr 1; exact UInt8.toNat_inj.mp (by show d.toNat = 32; omega), fun z => by rw [Option.some.inj z]; rfl⟩
      rw [e2]
      exact ite2 (fun e3 => add (by rw [e3, Bool.or_true])) (fun e3 => keep (by rw [eq_false_of_ne_true e1, eq_false_of_ne_true e3]; rfl))
    · rintro σ H' ⟨hs, ⟨v4, rfl⟩, hq'⟩
      rw [List.take_of_length_le (by rw [Bt.cutB_len (Nat.le_of_lt hn)]; exact Nat.le_refl _)] at hq'
      exact ⟨_, rfl, k q H' hs hq hq'⟩
end
end Br
end
section
set_option Elab.async false
set_option linter.all false
set_option maxRecDepth 100000
set_option maxHeartbeats 1000000
namespace Br
open PySem PySem.Spec PyProof.Rows L2 Xc
open Tilt (Word Fault Bytes ascii isName isSmall isDigit)
open Bt (F cod isNm sgn refu cutB)
theorem sgn_space (c : UInt8) : Unicode.isSpace (sgn c) = decide (sgn c = 32) := by
  revert c
  exact u8 (by decide +kernel)
theorem wfold_sgn : ∀ (l : Bytes) (st : List (List Nat) × List Nat), (l.map sgn).foldl TL.wstep st = (l.map sgn).foldl Bt.stepL st
  | [], _ => rfl
  | c :: r, st => by
    rw [List.map_cons, List.foldl_cons, List.foldl_cons]
    have e : TL.wstep st (sgn c) = Bt.stepL st (sgn c) := by
      unfold TL.wstep Bt.stepL
      rw [sgn_space]
      by_cases h : sgn c = 32
      · rw [if_pos h, if_pos (decide_eq_true h)]
      · rw [if_neg h, if_neg (by simpa using h)]
    rw [e]
    exact wfold_sgn r _
theorem joinL_one : ∀ l : List Nat, TL.joinL [] (l.map fun c => [c]) = l
  | [] => rfl
  | [c] => rfl
  | c :: d :: r => by
    show [c] ++ ([] ++ TL.joinL [] ((d :: r).map fun c => [c])) = c :: d :: r
    rw [joinL_one (d :: r)]; rfl
theorem tyes {σ : L2.St} {H : Hp} {T R : Hp → Prop} (h : T H) : tYes σ H fun b H3 => if b = true then T H3 else R H3 := by
  show if true = true then T H else R H
  rw [if_pos rfl]; exact h
def sg (c : UInt8) : Str := ⟨#[sgn c]⟩
theorem join_tl (l : Bytes) : TL.tl (Txt.join "" (l.map sg)) = l.map sgn := by
  rw [TL.join_eq, TL.tl_join]
  have e0 : TL.tl ("" : Str) = [] := by kernel_rfl
  rw [e0, List.map_map]
  have : (l.map (TL.tl ∘ sg)) = (l.map sgn).map fun c => [c] := by
    rw [List.map_map]; rfl
  rw [this, joinL_one]
theorem words_txt {l : Bytes} (p : Nat) (h : Tilt.badByte true 0 l = none) : Txt.words (Txt.join "" (l.map sg)) = (Tilt.wordsFrom p [] l).map fun x => sW x.w := by
  refine TL.map_tl_inj ?_
  rw [TL.words_tl, join_tl, wfold_sgn]
  have e := Bt.words_cod p h
  have e2 : TL.wfin ((l.map sgn).foldl Bt.stepL ([], [])) = Bt.finL ((l.map sgn).foldl Bt.stepL ([], [])) := rfl
  rw [e2, e, List.map_map]
  refine List.map_congr_left fun x _ => ?_
  show cod x.w = (cod x.w).toArray.toList
  simp
theorem cutV_b {b : Bytes} {p n : Nat} (h1 : p ≤ n) (h2 : n ≤ b.length) : cutV (b.map bV) (some (p : Int)) (some (n : Int)) = (cutB b p n).map bV := by
  unfold cutV cutB
  rw [HT.sIx_nat, HT.sIx_nat, List.length_map, Nat.min_eq_left h2, Nat.min_eq_left (Nat.le_trans h1 h2), List.map_take, List.map_drop]
theorem sum_ones (l : Bytes) : ((l.map sg).map fun z : Str => z.length).sum = l.length := by
  induction l with
  | nil => rfl
  | cons c r ih => rw [List.map_cons, List.map_cons, List.sum_cons, ih, List.length_cons]; show 1 + r.length = _; omega
def spLineAt (A : Ad) : Sp := fun vs H Q E => ∃ (a : Addr) (p : Nat) (b : Bytes), vs = [.ref a, .int p] ∧ H a = some (.lst (b.map bV)) ∧ p ≤ b.length ∧ b.length ≤ 16384 ∧
  Does A.F [] H (Bt.lineAt b p) (fun x v H' => ∃ q, v = .ref q ∧ H q = none ∧ LnAt A.L H' q x.2 x.1 none) Q E
section
variable {P : Program} {w : World} {K : PySem.W.Frag} {mg : Str → Option Value} {base : Heap} {A : Ad} {f : Addr} {fd : FuncData}
theorem scLineAt : FnScope ["text", "start", "end", "words", "byte"] ["text", "start"] (defScope (top 31)) := ⟨rfl, rfl, rfl, by decide +kernel, rfl, by decide +kernel, by decide +kernel⟩
theorem ok_lineat (T : Tx K mg A) (fEnd : Fn P w K mg base (CXF P w A.F) "end_of_line" 2 ["text", "start"] [] (spEnd A)) (fChk : Fn P w K mg base (CXF P w A.F) "check_bytes" 2 ["text", "start", "end"] [] (spChk A)) (fPl : Fn P w K mg base CX0 "places_of_words" 1 ["text", "start", "end"] [] spPlaces)
    (fSg : Fn P w K mg base CX0 "sign_of" 1 ["byte"] [] spSign) (ckL : Ck P w K mg base CX0 "Line" A.L 1 ["self", "words", "places", "end"] (spLnInit A)) (G : Fun K "line_at" "line_at" (top 31) f fd) : FnOk P w K mg base (CXF P w A.F) 4 f fd ["text", "start"] (spLineAt A) := by
  refine G.okF scLineAt (fun vs H Q E h => ?_) (fun X0 cdv Ar outer s H vs Q E hX hr h => ?_)
  · obtain ⟨a, p, b, rfl, _⟩ := h
    rfl
  · obtain ⟨a, p, b, rfl, ha, hp, hlen, D⟩ := h
    have D := D.eq Bt.lineAt_eq
    refine ⟨_, pss_cons (ps_set (i := 2) scLineAt.nd rfl (Or.inl rfl) (pe_fn fEnd hr (by decide) rfl (passK hX) (pa_cons (pv 0) (pa_cons (pv 1) pa_nil))))
      (pss_cons (ps_expr (pe_fn fChk hr (by decide) rfl (passK hX) (pa_cons (pv 0) (pa_cons (pv 1) (pa_cons (pv 2) pa_nil)))))
      (pss_cons (ps_set (i := 3) scLineAt.nd rfl (Or.inl rfl) (pe_words (pe_join pe_str (pe_lc (own := [("byte", 4)]) rfl scLineAt.nd (pi_list (pe_slice sl_list (pv 0) (po_some (pv 1)) (po_some (pv 2)))) (blkOk_by (by kernel_rfl)) (fun _ _ _ _ _ => pg_name (i := 4) scLineAt.nd rfl (Or.inl rfl)) (fun _ _ _ _ _ => pts_nil)
        (fun _ _ _ _ _ => pe_fn fSg hr (by decide) rfl pass0 (pa_cons (pv 4) pa_nil))))))
      (pss_one (ps_ret (pe_ck ckL hr (by decide) rfl pass0 (pa_cons (pv 3) (pa_cons (pe_fn fPl hr (by decide) rfl pass0 (pa_cons (pv 0) (pa_cons (pv 1) (pa_cons (pv 2) pa_nil)))) (pa_cons (pv 2) pa_nil)))))))), ?_⟩
    refine ⟨_, rfl, _, rfl, a, p, b, rfl, ha, hp, D.bind (fun _ k => k) fun n v H1 hn _ _ P1 D => ?_⟩
    obtain ⟨rfl, rfl⟩ := P1
    obtain ⟨hpn, hnl⟩ := Bt.endM_ok hn
    refine ⟨_, rfl, _, rfl, _, rfl, a, p, n, b, rfl, ha, hnl, hpn, hlen, D.bind (fun _ k => k) fun u v H2 hu _ _ P2 D => ?_⟩
    obtain ⟨rfl, rfl⟩ := P2
    have hbad := Bt.chk_none hu
    have hcl := Bt.cutB_len (p := p) (Nat.le_of_lt hnl)
    refine ⟨⟨_, rfl⟩, ?_⟩
    refine ⟨_, rfl, _, rfl, _, rfl, _, rfl, _, rfl, a, _, rfl, SqL.of ha, fun q hq => ⟨q, rfl, ⟨_, SqL.of upd_same⟩, fun D1 hD1 => ?_⟩⟩
    rw [cutV_b hpn (Nat.le_of_lt hnl)]
    rw [cutV_b hpn (Nat.le_of_lt hnl)] at hD1
    have n1 : q ≠ D1 := fun z => by rw [← z, upd_same] at hD1; cases hD1
    refine lc_list (K := K) (a := q) (xs := (cutB b p n).map bV) (fun i H' => Same (upd H2 q (.lst ((cutB b p n).map bV))) H' ∧ H' D1 = some (.lst ((((cutB b p n).take i).map sg).map V.str))) ⟨Kp.same.mp (Kp.new hD1), upd_same⟩ (fun i H' _ hs => SqL.of (hs.1 _ _ upd_same)) ?_ ?_
    · rintro i x H' hx ⟨hs, hd⟩
      rw [List.getElem?_map] at hx
      obtain ⟨c, hc, rfl⟩ := Option.map_eq_some_iff.mp hx
      refine ⟨rfl, tyes ?_⟩
      refine ⟨_, rfl, c, rfl, _, hd, ?_, ?_, ?_⟩
      · rw [List.length_map, List.length_map, List.length_take, sizeLine_eq]; omega
      · exact fun b o e => by rw [upd_ne (ne_of_none e hD1)]; exact hs b o e
      · rw [upd_same, take_snoc hc, List.map_append, List.map_append]; rfl
    · rintro H' ⟨hs, hd⟩
      rw [List.length_map, List.take_length] at hd
      have hs0 : Same H2 H' := (Kp.same.mp (Kp.new hq)).trans hs
      refine ⟨"", D1, (cutB b p n).map sg, rfl, rfl, .inl (SqL.of hd), ?_, ⟨_, rfl⟩, _, rfl, rfl, ?_, fun wq hwq => ?_⟩
      · rw [sum_ones]; show (cutB b p n).length + (List.map sg (cutB b p n)).length * 0 ≤ _; omega
      · have : (Txt.join "" ((cutB b p n).map sg)).length = (cutB b p n).length := by
          rw [TL.len_tl, join_tl, List.length_map]
        rw [this, sizeLine_eq]; omega
      rw [words_txt p hbad]
      have hs1 : Same H2 (upd H' wq (.lst (((Tilt.wordsFrom p [] (cutB b p n)).map fun x => sW x.w).map V.str))) := hs0.trans (Kp.same.mp (Kp.new hwq))
      refine ⟨_, rfl, _, rfl, _, rfl, _, rfl, a, p, n, b, rfl, hs1 _ _ ha, hnl, hpn, hlen, fun pq H3 s3 hpq0 hpq => ⟨_, rfl, fun x dx hx hdx hne => ?_⟩⟩
      refine ⟨x, dx, wq, pq, n, rfl, upd_same, fun H4 k4 hx4 => ⟨rfl, ?_⟩⟩
      have n2 : x ≠ pq := fun z => by rw [z, hpq] at hx; cases hx
      have hw3 := s3 _ _ (show upd H' wq _ wq = _ from upd_same)
      have n3 : x ≠ wq := fun z => by rw [z, hw3] at hx; cases hx
      have up : ∀ b o, H3 b = some o → H4 b = some o := fun b o e => k4 b o (by rw [upd_ne (ne_of_none e hx), upd_ne (ne_of_none e hdx)]; exact e) (by simp; exact ne_of_none e hx)
      have hs4 : Same H2 H4 := fun b o e => up b o (s3 b o (hs1 b o e))
      refine D.ok (Kp.same.mpr hs4) ⟨x, rfl, (hs1.trans s3).free hx, dx, wq, pq, 0, Tilt.wordsFrom p [] (cutB b p n), hx4, ?_, ?_, rfl, Nat.zero_le _, (fun q z => nomatch z), fun w hw => ⟨?_, ?_⟩⟩
      · rw [up _ _ hw3, List.map_map]; rfl
      · rw [up _ _ hpq, ← Bt.places_line p hbad, List.map_map]; rfl
      · exact Bt.words_ne _ [] p 0 hbad w hw
      · have := Bt.wlen _ [] p w hw
        simp at this; omega
end
end Br
end
section
set_option Elab.async false
set_option linter.all false
set_option maxRecDepth 100000
set_option maxHeartbeats 1000000
namespace Br
open PySem PySem.Spec PyProof.Rows L2 Xc
open Tilt (Word Fault Bytes ascii isName isSmall isDigit)
open Bt (F cod isNm sgn refu)
def tf (bal dr ki : Int) (d1 d2 d3 d4 d5 d6 d7 : Addr) : List (Str × V) :=
  [("balls", .int bal), ("drained", .int dr), ("kicks", .int ki), ("switches", .ref d1), ("lamps", .ref d2), ("coils", .ref d3), ("devices", .ref d4), ("held", .ref d5), ("serving", .ref d6), ("reached", .ref d7)]
section
variable {bal dr ki : Int} {d1 d2 d3 d4 d5 d6 d7 : Addr}
theorem tf_balls : (tf bal dr ki d1 d2 d3 d4 d5 d6 d7).lookup ("balls" : Str) = some (V.int bal) := by kernel_rfl
theorem tf_drained : (tf bal dr ki d1 d2 d3 d4 d5 d6 d7).lookup ("drained" : Str) = some (V.int dr) := by kernel_rfl
theorem tf_kicks : (tf bal dr ki d1 d2 d3 d4 d5 d6 d7).lookup ("kicks" : Str) = some (V.int ki) := by kernel_rfl
theorem tf_switches : (tf bal dr ki d1 d2 d3 d4 d5 d6 d7).lookup ("switches" : Str) = some (V.ref d1) := by kernel_rfl
theorem tf_lamps : (tf bal dr ki d1 d2 d3 d4 d5 d6 d7).lookup ("lamps" : Str) = some (V.ref d2) := by kernel_rfl
theorem tf_coils : (tf bal dr ki d1 d2 d3 d4 d5 d6 d7).lookup ("coils" : Str) = some (V.ref d3) := by kernel_rfl
theorem tf_devices : (tf bal dr ki d1 d2 d3 d4 d5 d6 d7).lookup ("devices" : Str) = some (V.ref d4) := by kernel_rfl
theorem tf_held : (tf bal dr ki d1 d2 d3 d4 d5 d6 d7).lookup ("held" : Str) = some (V.ref d5) := by kernel_rfl
theorem tf_serving : (tf bal dr ki d1 d2 d3 d4 d5 d6 d7).lookup ("serving" : Str) = some (V.ref d6) := by kernel_rfl
theorem tf_reached : (tf bal dr ki d1 d2 d3 d4 d5 d6 d7).lookup ("reached" : Str) = some (V.ref d7) := by kernel_rfl
theorem tf_pb (z : Int) : putF "balls" (.int z) (tf bal dr ki d1 d2 d3 d4 d5 d6 d7) = tf z dr ki d1 d2 d3 d4 d5 d6 d7 := by kernel_rfl
theorem tf_pd (z : Int) : putF "drained" (.int z) (tf bal dr ki d1 d2 d3 d4 d5 d6 d7) = tf bal z ki d1 d2 d3 d4 d5 d6 d7 := by kernel_rfl
theorem tf_pk (z : Int) : putF "kicks" (.int z) (tf bal dr ki d1 d2 d3 d4 d5 d6 d7) = tf bal dr z d1 d2 d3 d4 d5 d6 d7 := by kernel_rfl
end
structure Tb where
  t : Addr
  dx : Addr
  d1 : Addr
  d2 : Addr
  d3 : Addr
  d4 : Addr
  d5 : Addr
  d6 : Addr
  d7 : Addr
def Tb.S (b : Tb) : List Addr := [b.t, b.d1, b.d2, b.d3, b.d4, b.d5, b.d6, b.d7]
def tru (names : List Bytes) : List (Key × V) := names.map fun n => (.inr (sW n), .bl true)
def swK (sw : List Tilt.Switch) (as : List Addr) : List (Key × V) := (sw.zip as).map fun z => (.inr (sW z.1.name), .ref z.2)
def coK (co : List Tilt.Coil) : List (Key × V) := co.map fun c => (.inr (sW c.name), .int c.most)
def swT (s : Tilt.Switch) : List V := [.int s.place, .int s.close, .int s.open_, .bl s.turned]
structure TabAt (C : Addr) (H : Hp) (b : Tb) (p : Bt.PT) : Prop where
  tab : H b.t = some (.ins C b.dx (tf p.T.balls p.drained p.T.kicks.length b.d1 b.d2 b.d3 b.d4 b.d5 b.d6 b.d7))
  sw : ∃ as, as.length = p.T.switches.length ∧ H b.d1 = some (.dK (swK p.T.switches as)) ∧ ∀ (i : Nat) s a, p.T.switches[i]? = some s → as[i]? = some a → H a = some (.tup (swT s))
  la : H b.d2 = some (.dK (tru (Bt.laN p)))
  co : H b.d3 = some (.dK (coK p.T.coils))
  de : H b.d4 = some (.dK (tru (Bt.deN p)))
  he : H b.d5 = some (.dK (tru p.held))
  se : H b.d6 = some (.dK (tru p.serving))
  re : ∃ kvs, H b.d7 = some (.dK kvs) ∧ kvs.length ≤ p.reached.length ∧ ∀ s, s.all isNm = true → valV kvs (.inr (sW s)) = (p.reached.lookup s).map fun n => V.int n
  nd : b.S.Nodup
theorem key_sW {w n : Bytes} (h : w.all isNm = true) : ((Sum.inr (sW n) : Key) = Sum.inr (sW w)) ↔ n = w :=
  ⟨fun e => (sW_eq h).mp (by injection e), fun e => by rw [e]⟩
theorem valV_tru {w : Bytes} (h : w.all isNm = true) : ∀ names : List Bytes, valV (tru names) (.inr (sW w)) = if w ∈ names then some (.bl true) else none
  | [] => rfl
  | n :: r => by
    by_cases e : n = w
    · subst e
      rw [if_pos (by simp)]
      exact valV_pos rfl
    · have ih := valV_tru h r
      have e1 : valV (tru (n :: r)) (.inr (sW w)) = valV (tru r) (.inr (sW w)) := valV_neg (fun z => e ((key_sW h).mp z))
      rw [e1, ih]
      have : (w ∈ n :: r) ↔ w ∈ r := by simp [show ¬ w = n from fun z => e z.symm]
      simp [this]
theorem valV_tru_some {w : Bytes} (h : w.all isNm = true) (names : List Bytes) : (valV (tru names) (.inr (sW w))).isSome = decide (w ∈ names) := by
  rw [valV_tru h]
  by_cases c : w ∈ names <;> simp [c]
theorem putK_tru {w : Bytes} {names : List Bytes} (h : w.all isNm = true) (hn : w ∉ names) : putK (tru names) (.inr (sW w)) (.bl true) = tru (names ++ [w]) := by
  rw [putK_new _ (by rw [valV_tru h, if_neg hn])]
  unfold tru
  rw [List.map_append]; rfl
theorem valV_co {w : Bytes} (h : w.all isNm = true) : ∀ co : List Tilt.Coil, valV (coK co) (.inr (sW w)) = (co.find? fun s => s.name == w).map fun c => V.int c.most
  | [] => rfl
  | c :: r => by
    by_cases e : c.name = w
    · have e1 : valV (coK (c :: r)) (.inr (sW w)) = some (.int c.most) := valV_pos (by show (Sum.inr (sW c.name) : Key) = _; rw [e])
      rw [e1, List.find?_cons]; simp [e]
    · have e1 : valV (coK (c :: r)) (.inr (sW w)) = valV (coK r) (.inr (sW w)) := valV_neg (fun z => e ((key_sW h).mp z))
      have e2 : (c.name == w) = false := by simpa using e
      rw [e1, valV_co h r, List.find?_cons, e2]
theorem co_some {w : Bytes} (h : w.all isNm = true) (p : Bt.PT) : (valV (coK p.T.coils) (.inr (sW w))).isSome = decide (w ∈ Bt.coN p) := by
  rw [valV_co h]
  by_cases c : w ∈ Bt.coN p
  · obtain ⟨s, h1, _, _⟩ := Bt.find_some (f := fun s : Tilt.Coil => s.name) c
    rw [h1, decide_eq_true c]; rfl
  · rw [decide_eq_false c]
    have : (p.T.coils.find? fun s => s.name == w) = none := by
      rw [List.find?_eq_none]
      intro x hx z
      exact c (List.mem_map.mpr ⟨x, hx, by simpa using z⟩)
    rw [this]; rfl
theorem putK_co {c : Tilt.Coil} {p : Bt.PT} (h : c.name.all isNm = true) (hn : c.name ∉ Bt.coN p) : putK (coK p.T.coils) (.inr (sW c.name)) (.int c.most) = coK (p.T.coils ++ [c]) := by
  have hs := co_some h p
  rw [decide_eq_false hn] at hs
  rw [putK_new _ (by simpa using hs)]
  unfold coK
  rw [List.map_append]; rfl
theorem valV_sw {w : Bytes} (h : w.all isNm = true) : ∀ (sw : List Tilt.Switch) (as : List Addr), as.length = sw.length → valV (swK sw as) (.inr (sW w)) = (as[(sw.map fun s => s.name).findIdx fun n => n == w]?).map V.ref
  | [], [], _ => rfl
  | s :: r, a :: as, hl => by
    rw [List.map_cons, List.findIdx_cons]
    by_cases e : s.name = w
    · have e1 : valV (swK (s :: r) (a :: as)) (.inr (sW w)) = some (.ref a) := valV_pos (by show (Sum.inr (sW s.name) : Key) = _; rw [e])
      rw [e1]; simp [e]
    · have e1 : valV (swK (s :: r) (a :: as)) (.inr (sW w)) = valV (swK r as) (.inr (sW w)) := valV_neg (fun z => e ((key_sW h).mp z))
      have e2 : (s.name == w) = false := by simpa using e
      rw [e1, valV_sw h r as (by simpa using hl), e2]; simp
theorem sw_some {w : Bytes} (h : w.all isNm = true) (p : Bt.PT) {as : List Addr} (hl : as.length = p.T.switches.length) : (valV (swK p.T.switches as) (.inr (sW w))).isSome = decide (w ∈ Bt.swN p) := by
  rw [valV_sw h _ _ hl]
  by_cases c : w ∈ Bt.swN p
  · rw [decide_eq_true c]
    have : ((p.T.switches.map fun s => s.name).findIdx fun n => n == w) < as.length := by
      rw [hl, ← List.length_map (f := fun s : Tilt.Switch => s.name)]
      exact List.findIdx_lt_length.mpr ⟨w, c, by simp⟩
    rw [List.getElem?_eq_getElem this]; rfl
  · rw [decide_eq_false c]
    have : as.length ≤ ((p.T.switches.map fun s => s.name).findIdx fun n => n == w) := by
      rw [hl, ← List.length_map (f := fun s : Tilt.Switch => s.name)]
      refine Nat.le_of_eq (List.findIdx_eq_length.mpr fun x hx => ?_).symm
      simp only [beq_eq_false_iff_ne]
      rintro rfl; exact c hx
    rw [List.getElem?_eq_none this]; rfl
theorem putK_sw {s : Tilt.Switch} {p : Bt.PT} {as : List Addr} {a : Addr} (hl : as.length = p.T.switches.length) (h : s.name.all isNm = true) (hn : s.name ∉ Bt.swN p) :
    putK (swK p.T.switches as) (.inr (sW s.name)) (.ref a) = swK (p.T.switches ++ [s]) (as ++ [a]) := by
  have hs := sw_some h p hl
  rw [decide_eq_false hn] at hs
  rw [putK_new _ (by simpa using hs)]
  unfold swK
  rw [List.zip_append hl.symm, List.map_append]; rfl
end Br
end
section
set_option Elab.async false
set_option linter.all false
set_option maxRecDepth 100000
set_option maxHeartbeats 1000000
namespace Br
open PySem PySem.Spec PyProof.Rows L2 Xc
open Tilt (Word Fault Bytes ascii isName isSmall isDigit)
open Bt (F cod isNm sgn refu cutB)
theorem Tb.ne {b : Tb} (nd : b.S.Nodup) {i j : Nat} {x y : Addr} (hx : b.S[i]? = some x) (hy : b.S[j]? = some y) (hij : i ≠ j) : x ≠ y := fun e => hij (nd_ix nd hx (e ▸ hy))
structure RdAt (A : Ad) (H : Hp) (b : Tb) (p : Addr) (e : Nat) (l : List Word) (q : Option Nat) (t : Bt.PT) : Prop where
  tab : TabAt A.T H b t
  ln : LnAt A.L H p e l q
section
variable {A : Ad} {H H' : Hp} {b : Tb} {p : Addr} {e : Nat} {l l' : List Word} {q q' : Option Nat} {t : Bt.PT} {C : Addr}
theorem TabAt.kinds (T : TabAt C H b t) : ∀ x ∈ b.S, (∃ dx fs, H x = some (.ins C dx fs) ∧ fs.length = 10) ∨ ∃ kvs, H x = some (.dK kvs) := by
  intro x hx
  unfold Tb.S at hx
  simp only [List.mem_cons, List.not_mem_nil, or_false] at hx
  obtain ⟨as, _, h1, _⟩ := T.sw
  obtain ⟨kvs, h7, _⟩ := T.re
  rcases hx with rfl | rfl | rfl | rfl | rfl | rfl | rfl | rfl
  · exact .inl ⟨_, _, T.tab, rfl⟩
  · exact .inr ⟨_, h1⟩
  · exact .inr ⟨_, T.la⟩
  · exact .inr ⟨_, T.co⟩
  · exact .inr ⟨_, T.de⟩
  · exact .inr ⟨_, T.he⟩
  · exact .inr ⟨_, T.se⟩
  · exact .inr ⟨_, h7⟩
theorem TabAt.nolst (T : TabAt C H b t) : ∀ x ∈ b.S, ∀ xs, H x ≠ some (.lst xs) := by
  intro x hx xs z
  rcases T.kinds x hx with ⟨dx, fs, h, _⟩ | ⟨kvs, h⟩ <;> (rw [z] at h; cases h)
theorem TabAt.noln (T : TabAt C H b t) (L : LnAt A.L H p e l q) : p ∉ b.S := by
  intro hx
  obtain ⟨dx, a, c, g, all, hp, _⟩ := L.ex
  rcases T.kinds p hx with ⟨dx', fs, h, h2⟩ | ⟨kvs, h⟩
  · rw [hp] at h
    cases h
    cases h2
  · rw [hp] at h; cases h
theorem TabAt.keep {S : List Addr} (T : TabAt C H b t) (k : Kp S H H') (h : ∀ x ∈ S, x ∉ b.S ∧ ∀ xs, H x ≠ some (.tup xs)) : TabAt C H' b t := by
  have up : ∀ x o, x ∈ b.S → H x = some o → H' x = some o := fun x o hx e => k x o e fun z => (h x z).1 hx
  obtain ⟨as, l1, h1, g1⟩ := T.sw
  obtain ⟨kvs, h7, g7⟩ := T.re
  exact ⟨up _ _ (by simp [Tb.S]) T.tab, ⟨as, l1, up _ _ (by simp [Tb.S]) h1, fun i s a e1 e2 => k _ _ (g1 i s a e1 e2) fun z => (h a z).2 _ (g1 i s a e1 e2)⟩, up _ _ (by simp [Tb.S]) T.la, up _ _ (by simp [Tb.S]) T.co, up _ _ (by simp [Tb.S]) T.de, up _ _ (by simp [Tb.S]) T.he, up _ _ (by simp [Tb.S]) T.se, ⟨kvs, up _ _ (by simp [Tb.S]) h7, g7⟩, T.nd⟩
theorem RdAt.line (R : RdAt A H b p e l q t) (k : Kp [p] H H') (L : LnAt A.L H' p e l' q') : RdAt A H' b p e l' q' t := by
  refine ⟨R.tab.keep k fun x hx => ?_, L⟩
  simp at hx
  subst hx
  refine ⟨R.tab.noln R.ln, fun xs z => ?_⟩
  obtain ⟨dx, a, c, g, all, hp, _⟩ := R.ln.ex
  rw [hp] at z; cases z
theorem RdAt.same (R : RdAt A H b p e l q t) (s : Same H H') : RdAt A H' b p e l q t :=
  ⟨R.tab.keep (Kp.same.mpr s) (by simp), R.ln.keep (Kp.same.mpr s) (by simp) (by simp)⟩
theorem RdAt.weak (R : RdAt A H b p e l q t) : RdAt A H b p e l none t := ⟨R.tab, R.ln.weak⟩
theorem RdAt.put {x : Addr} {o : HO} {t' : Bt.PT} (R : RdAt A H b p e l q t) (hx : x ∈ b.S) (T' : TabAt A.T (upd H x o) b t') : RdAt A (upd H x o) b p e l q t' :=
  ⟨T', R.ln.keep (S := [x]) (Kp.upd (by simp)) (by simp; intro z; exact R.tab.noln R.ln (z ▸ hx)) fun y hy xs => by simp at hy; subst hy; exact R.tab.nolst y hx xs⟩
theorem TabAt.tupNe (T : TabAt C H b t) {x a : Addr} {xs : List V} (hx : x ∈ b.S) (h : H a = some (.tup xs)) : a ≠ x := by
  intro z
  subst z
  rcases T.kinds a hx with ⟨dx, fs, h', _⟩ | ⟨kvs, h'⟩ <;> (rw [h] at h'; cases h')
theorem TabAt.putT (T : TabAt C H b t) {t' : Bt.PT} (e1 : t'.T.switches = t.T.switches) (e2 : Bt.laN t' = Bt.laN t) (e3 : t'.T.coils = t.T.coils) (e4 : Bt.deN t' = Bt.deN t) (e5 : t'.held = t.held) (e6 : t'.serving = t.serving) (e7 : t'.reached = t.reached) :
    TabAt C (upd H b.t (.ins C b.dx (tf t'.T.balls t'.drained t'.T.kicks.length b.d1 b.d2 b.d3 b.d4 b.d5 b.d6 b.d7))) b t' := by
  obtain ⟨as, l1, h1, g1⟩ := T.sw
  obtain ⟨kvs, h7, g7⟩ := T.re
  have ne : ∀ {j : Nat} {y : Addr}, b.S[j]? = some y → j ≠ 0 → y ≠ b.t := fun hy hj => Tb.ne T.nd hy (j := 0) rfl hj
  refine ⟨upd_same, ⟨as, by rw [e1]; exact l1, by rw [upd_ne (ne (j := 1) rfl (by decide)), e1]; exact h1, fun i s a q1 q2 => ?_⟩, ?_, ?_, ?_, ?_, ?_, ⟨kvs, ?_, ?_⟩, T.nd⟩
  · rw [e1] at q1
    have := g1 i s a q1 q2
    rw [upd_ne (T.tupNe (by simp [Tb.S]) this)]; exact this
  · rw [upd_ne (ne (j := 2) rfl (by decide)), e2]; exact T.la
  · rw [upd_ne (ne (j := 3) rfl (by decide)), e3]; exact T.co
  · rw [upd_ne (ne (j := 4) rfl (by decide)), e4]; exact T.de
  · rw [upd_ne (ne (j := 5) rfl (by decide)), e5]; exact T.he
  · rw [upd_ne (ne (j := 6) rfl (by decide)), e6]; exact T.se
  · rw [upd_ne (ne (j := 7) rfl (by decide))]; exact h7
  · rw [e7]; exact g7
theorem TabAt.putSw (T : TabAt C H b t) {s : Tilt.Switch} {a : Addr} (h : s.name.all isNm = true) (hn : s.name ∉ Bt.swN t) (ha : H a = some (.tup (swT s))) {as : List Addr} (hl : as.length = t.T.switches.length) (h1 : H b.d1 = some (.dK (swK t.T.switches as)))
    (g1 : ∀ (i : Nat) s a, t.T.switches[i]? = some s → as[i]? = some a → H a = some (.tup (swT s))) :
    TabAt C (upd H b.d1 (.dK (putK (swK t.T.switches as) (.inr (sW s.name)) (.ref a)))) b { t with T := { t.T with switches := t.T.switches ++ [s] } } := by
  obtain ⟨kvs, h7, g7⟩ := T.re
  have ne : ∀ {j : Nat} {y : Addr}, b.S[j]? = some y → j ≠ 1 → y ≠ b.d1 := fun hy hj => Tb.ne T.nd hy (j := 1) rfl hj
  refine ⟨(upd_ne (ne (j := 0) rfl (by decide))).trans T.tab, ⟨as ++ [a], by simp [hl], by rw [upd_same, putK_sw hl h hn], fun i s' a' q1 q2 => ?_⟩, (upd_ne (ne (j := 2) rfl (by decide))).trans T.la, (upd_ne (ne (j := 3) rfl (by decide))).trans T.co, (upd_ne (ne (j := 4) rfl (by decide))).trans T.de,
    (upd_ne (ne (j := 5) rfl (by decide))).trans T.he, (upd_ne (ne (j := 6) rfl (by decide))).trans T.se, ⟨kvs, (upd_ne (ne (j := 7) rfl (by decide))).trans h7, g7⟩, T.nd⟩
  have z : H a' = some (.tup (swT s')) := by
    have q1 : (t.T.switches ++ [s])[i]? = some s' := q1
    by_cases c : i < t.T.switches.length
    · rw [List.getElem?_append_left c] at q1
      rw [List.getElem?_append_left (by omega)] at q2
      exact g1 i s' a' q1 q2
    · have hi : i < (t.T.switches ++ [s]).length := (List.getElem?_eq_some_iff.mp q1).1
      simp at hi
      have ei : i = t.T.switches.length := by omega
      subst ei
      rw [List.getElem?_append_right (Nat.le_refl _)] at q1
      rw [← hl, List.getElem?_append_right (Nat.le_refl _)] at q2
      simp at q1 q2
      subst q1 q2
      exact ha
  rw [upd_ne (T.tupNe (by simp [Tb.S]) z)]; exact z
theorem TabAt.putLa (T : TabAt C H b t) {n : Bytes} (pl : Nat) (h : n.all isNm = true) (hn : n ∉ Bt.laN t) : TabAt C (upd H b.d2 (.dK (putK (tru (Bt.laN t)) (.inr (sW n)) (.bl true)))) b { t with T := { t.T with lamps := t.T.lamps ++ [⟨pl, n⟩] } } := by
  obtain ⟨as, l1, h1, g1⟩ := T.sw
  obtain ⟨kvs, h7, g7⟩ := T.re
  have ne : ∀ {j : Nat} {y : Addr}, b.S[j]? = some y → j ≠ 2 → y ≠ b.d2 := fun hy hj => Tb.ne T.nd hy (j := 2) rfl hj
  refine ⟨(upd_ne (ne (j := 0) rfl (by decide))).trans T.tab, ⟨as, l1, (upd_ne (ne (j := 1) rfl (by decide))).trans h1, fun i s a q1 q2 => (upd_ne (T.tupNe (by simp [Tb.S]) (g1 i s a q1 q2))).trans (g1 i s a q1 q2)⟩, ?_, (upd_ne (ne (j := 3) rfl (by decide))).trans T.co, (upd_ne (ne (j := 4) rfl (by decide))).trans T.de,
    (upd_ne (ne (j := 5) rfl (by decide))).trans T.he, (upd_ne (ne (j := 6) rfl (by decide))).trans T.se, ⟨kvs, (upd_ne (ne (j := 7) rfl (by decide))).trans h7, g7⟩, T.nd⟩
  rw [upd_same, putK_tru h hn]
  unfold Bt.laN
  rw [List.map_append]; rfl
theorem TabAt.putCo (T : TabAt C H b t) {c : Tilt.Coil} (h : c.name.all isNm = true) (hn : c.name ∉ Bt.coN t) : TabAt C (upd H b.d3 (.dK (putK (coK t.T.coils) (.inr (sW c.name)) (.int c.most)))) b { t with T := { t.T with coils := t.T.coils ++ [c] } } := by
  obtain ⟨as, l1, h1, g1⟩ := T.sw
  obtain ⟨kvs, h7, g7⟩ := T.re
  have ne : ∀ {j : Nat} {y : Addr}, b.S[j]? = some y → j ≠ 3 → y ≠ b.d3 := fun hy hj => Tb.ne T.nd hy (j := 3) rfl hj
  refine ⟨(upd_ne (ne (j := 0) rfl (by decide))).trans T.tab, ⟨as, l1, (upd_ne (ne (j := 1) rfl (by decide))).trans h1, fun i s a q1 q2 => (upd_ne (T.tupNe (by simp [Tb.S]) (g1 i s a q1 q2))).trans (g1 i s a q1 q2)⟩, (upd_ne (ne (j := 2) rfl (by decide))).trans T.la, ?_, (upd_ne (ne (j := 4) rfl (by decide))).trans T.de,
    (upd_ne (ne (j := 5) rfl (by decide))).trans T.he, (upd_ne (ne (j := 6) rfl (by decide))).trans T.se, ⟨kvs, (upd_ne (ne (j := 7) rfl (by decide))).trans h7, g7⟩, T.nd⟩
  rw [upd_same, putK_co h hn]
theorem TabAt.putDe (T : TabAt C H b t) {d : Tilt.Device} (h : d.name.all isNm = true) (hn : d.name ∉ Bt.deN t) : TabAt C (upd H b.d4 (.dK (putK (tru (Bt.deN t)) (.inr (sW d.name)) (.bl true)))) b { t with T := { t.T with devices := t.T.devices ++ [d] } } := by
  obtain ⟨as, l1, h1, g1⟩ := T.sw
  obtain ⟨kvs, h7, g7⟩ := T.re
  have ne : ∀ {j : Nat} {y : Addr}, b.S[j]? = some y → j ≠ 4 → y ≠ b.d4 := fun hy hj => Tb.ne T.nd hy (j := 4) rfl hj
  refine ⟨(upd_ne (ne (j := 0) rfl (by decide))).trans T.tab, ⟨as, l1, (upd_ne (ne (j := 1) rfl (by decide))).trans h1, fun i s a q1 q2 => (upd_ne (T.tupNe (by simp [Tb.S]) (g1 i s a q1 q2))).trans (g1 i s a q1 q2)⟩, (upd_ne (ne (j := 2) rfl (by decide))).trans T.la, (upd_ne (ne (j := 3) rfl (by decide))).trans T.co, ?_,
    (upd_ne (ne (j := 5) rfl (by decide))).trans T.he, (upd_ne (ne (j := 6) rfl (by decide))).trans T.se, ⟨kvs, (upd_ne (ne (j := 7) rfl (by decide))).trans h7, g7⟩, T.nd⟩
  rw [upd_same, putK_tru h hn]
  unfold Bt.deN
  rw [List.map_append]; rfl
theorem TabAt.putHe (T : TabAt C H b t) {n : Bytes} (h : n.all isNm = true) (hn : n ∉ t.held) : TabAt C (upd H b.d5 (.dK (putK (tru t.held) (.inr (sW n)) (.bl true)))) b { t with held := t.held ++ [n] } := by
  obtain ⟨as, l1, h1, g1⟩ := T.sw
  obtain ⟨kvs, h7, g7⟩ := T.re
  have ne : ∀ {j : Nat} {y : Addr}, b.S[j]? = some y → j ≠ 5 → y ≠ b.d5 := fun hy hj => Tb.ne T.nd hy (j := 5) rfl hj
  refine ⟨(upd_ne (ne (j := 0) rfl (by decide))).trans T.tab, ⟨as, l1, (upd_ne (ne (j := 1) rfl (by decide))).trans h1, fun i s a q1 q2 => (upd_ne (T.tupNe (by simp [Tb.S]) (g1 i s a q1 q2))).trans (g1 i s a q1 q2)⟩, (upd_ne (ne (j := 2) rfl (by decide))).trans T.la, (upd_ne (ne (j := 3) rfl (by decide))).trans T.co, (upd_ne (ne (j := 4) rfl (by decide))).trans T.de,
    ?_, (upd_ne (ne (j := 6) rfl (by decide))).trans T.se, ⟨kvs, (upd_ne (ne (j := 7) rfl (by decide))).trans h7, g7⟩, T.nd⟩
  rw [upd_same, putK_tru h hn]
theorem TabAt.putSe (T : TabAt C H b t) {n : Bytes} (h : n.all isNm = true) (hn : n ∉ t.serving) : TabAt C (upd H b.d6 (.dK (putK (tru t.serving) (.inr (sW n)) (.bl true)))) b { t with serving := t.serving ++ [n] } := by
  obtain ⟨as, l1, h1, g1⟩ := T.sw
  obtain ⟨kvs, h7, g7⟩ := T.re
  have ne : ∀ {j : Nat} {y : Addr}, b.S[j]? = some y → j ≠ 6 → y ≠ b.d6 := fun hy hj => Tb.ne T.nd hy (j := 6) rfl hj
  refine ⟨(upd_ne (ne (j := 0) rfl (by decide))).trans T.tab, ⟨as, l1, (upd_ne (ne (j := 1) rfl (by decide))).trans h1, fun i s a q1 q2 => (upd_ne (T.tupNe (by simp [Tb.S]) (g1 i s a q1 q2))).trans (g1 i s a q1 q2)⟩, (upd_ne (ne (j := 2) rfl (by decide))).trans T.la, (upd_ne (ne (j := 3) rfl (by decide))).trans T.co, (upd_ne (ne (j := 4) rfl (by decide))).trans T.de,
    (upd_ne (ne (j := 5) rfl (by decide))).trans T.he, ?_, ⟨kvs, (upd_ne (ne (j := 7) rfl (by decide))).trans h7, g7⟩, T.nd⟩
  rw [upd_same, putK_tru h hn]
theorem lookup_key {β : Type} (s s' : Bytes) (n : β) (r : List (Bytes × β)) : List.lookup s' ((s, n) :: r) = if s' = s then some n else r.lookup s' := by
  rw [List.lookup_cons]
  by_cases h : s' = s
  · subst h; simp
  · have : (s' == s) = false := by simpa using h
    rw [this, if_neg h]
theorem TabAt.putRe (T : TabAt C H b t) {s : Bytes} (n : Nat) (h : s.all isNm = true) {kvs : List (Key × V)} (h7 : H b.d7 = some (.dK kvs)) (hl : kvs.length ≤ t.reached.length) (g7 : ∀ s, s.all isNm = true → valV kvs (.inr (sW s)) = (t.reached.lookup s).map fun n => V.int n) :
    TabAt C (upd H b.d7 (.dK (putK kvs (.inr (sW s)) (.int n)))) b { t with reached := (s, n) :: t.reached } := by
  obtain ⟨as, l1, h1, g1⟩ := T.sw
  have ne : ∀ {j : Nat} {y : Addr}, b.S[j]? = some y → j ≠ 7 → y ≠ b.d7 := fun hy hj => Tb.ne T.nd hy (j := 7) rfl hj
  refine ⟨(upd_ne (ne (j := 0) rfl (by decide))).trans T.tab, ⟨as, l1, (upd_ne (ne (j := 1) rfl (by decide))).trans h1, fun i s a q1 q2 => (upd_ne (T.tupNe (by simp [Tb.S]) (g1 i s a q1 q2))).trans (g1 i s a q1 q2)⟩, (upd_ne (ne (j := 2) rfl (by decide))).trans T.la, (upd_ne (ne (j := 3) rfl (by decide))).trans T.co, (upd_ne (ne (j := 4) rfl (by decide))).trans T.de,
    (upd_ne (ne (j := 5) rfl (by decide))).trans T.he, (upd_ne (ne (j := 6) rfl (by decide))).trans T.se, ⟨_, upd_same, Nat.le_trans (length_putK _ _ _) (Nat.succ_le_succ hl), fun s' hs' => ?_⟩, T.nd⟩
  rw [valV_put, lookup_key, g7 s' hs']
  by_cases c : s' = s
  · rw [if_pos c, if_pos (by rw [c])]; rfl
  · rw [if_neg c, if_neg fun z => c ((sW_eq h).mp (by injection z))]
end
end Br
end
section
set_option Elab.async false
set_option linter.all false
set_option maxRecDepth 100000
set_option maxHeartbeats 1000000
namespace Br
open PySem PySem.Spec PyProof.Rows L2 Xc
open Tilt (Word Fault Bytes ascii isName isSmall isDigit)
open Bt (F cod isNm sgn refu cutB)
structure FunD (K : PySem.W.Frag) (x qual : Str) (st : Stmt) (dV : Value) (f : Addr) (fd : FuncData) : Prop where
  ex : ∃ (oc : Value) (od : Option Addr) (kV doc pm : Value) (an : Option Addr) (cdv ct : Value) (osl : Array (Option Value)),
    fd = PySem.W.fnOf x qual (defArgs st) (defBody st) (defScope st) dV kV doc pm an cdv ct ∧ K.lookup f = some ⟨oc, od, .func fd, osl⟩ ∧ PySem.W.codeIn K cdv qual = true
theorem FunD.okF {P : Program} {w : World} {K : PySem.W.Frag} {mg : Str → Option Value} {base : Heap} {x qual : Str} {st : Stmt} {dV : Value} {f C : Addr} {fd : FuncData} {N ps : List Str} {k : Nat} {sp : Sp} (G : FunD K x qual st dV f fd) (S : FnScope N ps (defScope st)) (len : ∀ vs H Q E, sp vs H Q E → vs.length = ps.length)
    (hbody : ∀ (X0 : Cx) (cdv : Value) (A : Around) (outer : List Env) (s : Shared) (H : Hp) (vs : List V) (Q : VK) (E : XK), X0 = cxOf (CXF P w C) P w K mg base N qual (defScope st) f cdv A outer s H E → Room k (A.deeper (envOfC qual (defScope st) s.heap.objs.size f cdv)) → sp vs H Q E →
      ∃ t, PSs ((cxOf (CXF P w C) P w K mg base N qual (defScope st) f cdv A outer s H E).wish (EX X0 C E)) (defBody st) t ∧ t { nx := fun _ H' => Q .non H', rt := Q } (L2.start N vs) H) : FnOk P w K mg base (CXF P w C) (k + 1) f fd ps sp := by
  obtain ⟨oc, od, kV, doc, pm, an, cdv, ct, osl, rfl, lk, hcd⟩ := G.ex
  refine fn_of lk hcd S len fun A outer s H vs Q E hr hsp => ?_
  obtain ⟨t, h, q⟩ := hbody _ cdv A outer s H vs Q E rfl hr hsp
  refine ⟨t, fun pins s1 σ H1 D I hw => ?_, q⟩
  exact wpAny_mono (h pins s1 σ H1 D (I.wish _) hw) (fun _ _ q => q.unwish) fun e s' z => leaveF z
def NmD (H : Hp) (d : Addr) (names : List Bytes) : Prop := ∃ kvs, H d = some (.dK kvs) ∧ ∀ w, w.all isNm = true → (valV kvs (.inr (sW w))).isSome = decide (w ∈ names)
theorem TabAt.nmSw {C : Addr} {H : Hp} {b : Tb} {t : Bt.PT} (T : TabAt C H b t) : NmD H b.d1 (Bt.swN t) := let ⟨as, l, h, _⟩ := T.sw; ⟨_, h, fun w hw => sw_some hw t l⟩
theorem TabAt.nmLa {C : Addr} {H : Hp} {b : Tb} {t : Bt.PT} (T : TabAt C H b t) : NmD H b.d2 (Bt.laN t) := ⟨_, T.la, fun w hw => valV_tru_some hw _⟩
theorem TabAt.nmCo {C : Addr} {H : Hp} {b : Tb} {t : Bt.PT} (T : TabAt C H b t) : NmD H b.d3 (Bt.coN t) := ⟨_, T.co, fun w hw => co_some hw t⟩
theorem TabAt.nmDe {C : Addr} {H : Hp} {b : Tb} {t : Bt.PT} (T : TabAt C H b t) : NmD H b.d4 (Bt.deN t) := ⟨_, T.de, fun w hw => valV_tru_some hw _⟩
def spNew (A : Ad) : Sp := fun vs H Q E => ∃ p e l q d bar had, vs = [.ref p, .ref d, .str (sW bar)] ∧ bar.all isNm = true ∧ LnAt A.L H p e l q ∧ NmD H d had ∧ Does A.F [p] H (Bt.newM e bar had l) (fun x v H' => v = .str (sW x.1) ∧ LnAt A.L H' p e x.2 none) Q E
def spKnown (A : Ad) : Sp := fun vs H Q E => ∃ p e l q d names, vs = [.ref p, .ref d] ∧ LnAt A.L H p e l q ∧ NmD H d names ∧ Does A.F [p] H (Bt.knwM e names l) (fun x v H' => v = .str (sW x.1.w) ∧ LnAt A.L H' p e x.2 (some x.1.at_)) Q E
def spReach (A : Ad) : Sp := fun vs H Q E => ∃ b p e l q t s n, vs = [.ref (Tb.t b), .ref p, .str (sW s), .int ((n : Nat) : Int)] ∧ s.all isNm = true ∧ RdAt A H b p e l (some q) t ∧ t.sz ≤ 1000000 ∧ Does A.F (p :: b.S) H (Bt.reachM t s n q) (fun t' v H' => v = .non ∧ RdAt A H' b p e l (some q) t') Q E
def spPlace (A : Ad) : Sp := fun vs H Q E => ∃ b p e l q t s hi, vs = [.ref (Tb.t b), .ref p, .str (sW s), .int ((hi : Nat) : Int)] ∧ s.all isNm = true ∧ hi ≤ 9999 ∧ RdAt A H b p e l q t ∧ t.sz ≤ 1000000 ∧ Does A.F (p :: b.S) H (Bt.placeM e t s hi l) (fun x v H' => v = .int x.1 ∧ RdAt A H' b p e x.2.2 none x.2.1) Q E
def spFree (A : Ad) : Sp := fun vs H Q E => ∃ b p e l q t, vs = [.ref (Tb.t b), .ref p] ∧ RdAt A H b p e l q t ∧ t.sz ≤ 1000000 ∧ Does A.F (p :: b.S) H (Bt.freeM e t l) (fun x v H' => v = .str (sW x.1) ∧ RdAt A H' b p e x.2.2 none x.2.1) Q E
def spHold (A : Ad) : Sp := fun vs H Q E => ∃ b p e l q t, vs = [.ref (Tb.t b), .ref p] ∧ RdAt A H b p e l q t ∧ t.sz ≤ 1000000 ∧ Does A.F (p :: b.S) H (Bt.holdM e t l) (fun x v H' => v = .non ∧ RdAt A H' b p e x.2 none x.1) Q E
def spRead (A : Ad) (m : Nat → Bt.PT → List Word → F (Bt.PT × List Word)) : Sp := fun vs H Q E => ∃ b p e l q t, vs = [.ref (Tb.t b), .ref p] ∧ RdAt A H b p e l q t ∧ t.sz ≤ 500000 ∧ Does A.F (p :: b.S) H (m e t l) (fun x v H' => v = .non ∧ RdAt A H' b p e x.2 none x.1) Q E
section
variable {A : Ad} {H H0 : Hp} {b : Tb} {p : Addr} {e : Nat} {l : List Word} {q : Option Nat} {t : Bt.PT} {σ : L2.St} {i : Nat} {Q Q1 : VK} {E : XK} {ta : TA} {β : Type} {Post1 : β → V → Hp → Prop}
theorem c_fixed {z : Str} {s : Bytes} {k : List Word → F β} (hσ : σ[i]? = some (some (.ref p))) (hz : z = sW s) (hs : s.all isNm = true) (R : RdAt A H b p e l q t) (kk : Kp (p :: b.S) H0 H) (D : Does A.F (p :: b.S) H0 (Bt.fixM e s l >>= k) Post1 Q1 E)
    (h : ∀ r H1, Kp (p :: b.S) H0 H1 → RdAt A H1 b p e r none t → Does A.F (p :: b.S) H0 (k r) Post1 Q1 E → Q .non H1) : tMeth A.L "take_fixed" (spFixed A) [] E (tVar i) (tCons (tC (.str z)) tNil) σ H Q := by
  obtain ⟨dx, a, c, g, all, hp, _⟩ := id R.ln.ex
  refine ⟨_, hσ, p, dx, _, rfl, hp, (by kernel_rfl), p, e, l, q, s, by rw [hz]; rfl, hs, R.ln, D.bind (fun _ k1 => kk.trans (k1.mono (by simp))) fun r v H1 _ K1 k1 P1 D => ?_⟩
  obtain ⟨rfl, L1⟩ := P1
  exact h r H1 K1 (R.line k1 L1) D
theorem c_num {lo hi : Nat} {k : (Nat × Nat) × List Word → F β} (hσ : σ[i]? = some (some (.ref p))) (hta : ∀ Q' : List V → Hp → Prop, Q' [.int (lo : Int), .int (hi : Int)] H → ta σ H Q') (hh : hi ≤ 9999) (R : RdAt A H b p e l q t) (kk : Kp (p :: b.S) H0 H) (D : Does A.F (p :: b.S) H0 (Bt.numM e lo hi l >>= k) Post1 Q1 E)
    (h : ∀ x H1, Bt.numM e lo hi l = .ok x → Kp (p :: b.S) H0 H1 → RdAt A H1 b p e x.2 (some x.1.2) t → Does A.F (p :: b.S) H0 (k x) Post1 Q1 E → Q (.int x.1.1) H1) : tMeth A.L "take_number" (spTNum A) [] E (tVar i) ta σ H Q := by
  obtain ⟨dx, a, c, g, all, hp, _⟩ := id R.ln.ex
  refine ⟨_, hσ, p, dx, _, rfl, hp, (by kernel_rfl), hta _ ⟨p, e, l, q, lo, hi, rfl, hh, R.ln, D.bind (fun _ k1 => kk.trans (k1.mono (by simp))) fun x v H1 hm K1 k1 P1 D => ?_⟩⟩
  obtain ⟨rfl, L1⟩ := P1
  exact h x H1 hm K1 (R.line k1 L1) D
theorem c_name {k : Word × List Word → F β} (hσ : σ[i]? = some (some (.ref p))) (R : RdAt A H b p e l q t) (kk : Kp (p :: b.S) H0 H) (D : Does A.F (p :: b.S) H0 (Bt.nameM e l >>= k) Post1 Q1 E)
    (h : ∀ x H1, Kp (p :: b.S) H0 H1 → RdAt A H1 b p e x.2 (some x.1.at_) t → Does A.F (p :: b.S) H0 (k x) Post1 Q1 E → Q (wV x.1) H1) : tMeth A.L "take_name" (spTName A) [] E (tVar i) tNil σ H Q := by
  obtain ⟨dx, a, c, g, all, hp, _⟩ := id R.ln.ex
  refine ⟨_, hσ, p, dx, _, rfl, hp, (by kernel_rfl), p, e, l, q, rfl, R.ln, D.bind (fun _ k1 => kk.trans (k1.mono (by simp))) fun x v H1 hm K1 k1 P1 D => ?_⟩
  obtain ⟨rfl, L1⟩ := P1
  exact h x H1 K1 (R.line k1 L1) D
theorem c_if {z : Str} {s : Bytes} (hσ : σ[i]? = some (some (.ref p))) (hz : z = sW s) (hs : s.all isNm = true) (R : RdAt A H b p e l q t) (kk : Kp (p :: b.S) H0 H)
    (h : ∀ H1, Kp (p :: b.S) H0 H1 → RdAt A H1 b p e (Bt.ifM s l).2 none t → Q (.bl (Bt.ifM s l).1) H1) : tMeth A.L "take_if" (spIf A) [] E (tVar i) (tCons (tC (.str z)) tNil) σ H Q := by
  obtain ⟨dx, a, c, g, all, hp, _⟩ := id R.ln.ex
  refine ⟨_, hσ, p, dx, _, rfl, hp, (by kernel_rfl), p, e, l, q, s, by rw [hz]; rfl, hs, R.ln, Does.intro_ok fun v H1 k1 P1 => ?_⟩
  obtain ⟨rfl, L1⟩ := P1
  exact h H1 (kk.trans (k1.mono (by simp))) (R.line k1 L1)
theorem c_ref {b' : Bool} {kd q0 : Nat} {k : Unit → F β} (hσ : σ[i]? = some (some (.ref p))) (hta : ∀ Q' : List V → Hp → Prop, Q' [.bl b', .int (kd : Int)] H → ta σ H Q') (R : RdAt A H b p e l (some q0) t) (kk : Kp (p :: b.S) H0 H) (D : Does A.F (p :: b.S) H0 (refu b' kd q0 >>= k) Post1 Q1 E)
    (h : b' = false → Does A.F (p :: b.S) H0 (k ()) Post1 Q1 E → Q .non H) : tMeth A.L "refuse_if" (spRefuse A) [] E (tVar i) ta σ H Q := by
  obtain ⟨dx, a, c, g, all, hp, _⟩ := id R.ln.ex
  refine ⟨_, hσ, p, dx, _, rfl, hp, (by kernel_rfl), hta _ ⟨p, e, l, q0, b', kd, rfl, R.ln, D.bind (fun _ k1 => kk.trans (k1.mono (by simp))) fun x v H1 hm K1 k1 P1 D => ?_⟩⟩
  obtain ⟨rfl, rfl⟩ := P1
  exact h (Bt.refu_false hm) D
end
section
variable {P : Program} {w : World} {K : PySem.W.Frag} {mg : Str → Option Value} {base : Heap} {A : Ad} {f : Addr} {fd : FuncData}
theorem scNew : FnScope ["line", "known", "barred", "name"] ["line", "known", "barred"] (defScope (top 48)) := ⟨rfl, rfl, rfl, by decide +kernel, rfl, by decide +kernel, by decide +kernel⟩
theorem ok_new (T : Tx K mg A) (mName : Mt P w K mg base (CXF P w A.F) A.L "take_name" 4 ["self"] (spTName A)) (mRef : Mt P w K mg base (CXF P w A.F) A.L "refuse_if" 2 ["self", "wrong", "kind"] (spRefuse A)) {dV : Value}
    (G : FunD K "take_new_name" "take_new_name" (top 48) dV f fd) : FnOk P w K mg base (CXF P w A.F) 5 f fd ["line", "known", "barred"] (spNew A) := by
  refine G.okF scNew (fun vs H Q E h => ?_) (fun X0 cdv Ar outer s H vs Q E hX hr h => ?_)
  · obtain ⟨p, e, l, q, d, bar, had, rfl, _⟩ := h
    rfl
  · obtain ⟨p, e, l, q, d, bar, had, rfl, hbar, hL, hN, D⟩ := h
    obtain ⟨dx, a, c, g, all, hp, _⟩ := id hL.ex
    obtain ⟨kvs, hd, hk⟩ := id hN
    have D := D.eq Bt.new_eq
    have hu := hu_of hr
    have hdp : d ≠ p := ne_of hd hp (by intro z; cases z)
    refine ⟨_, pss_cons (ps_set (i := 3) scNew.nd rfl (Or.inl rfl) (pe_mt0 (pv 0) T.cL mName hr (by decide) (passK hX)))
      (pss_cons (ps_expr (pe_mt (pv 0) T.cL mRef hr (by decide) (passK hX) (pa_cons (pe_cmpR op_eq (pv 3) (pv 2) (nomark _)) (pa_cons (pe_gv rfl T.gWRONG_FORM) pa_nil))))
      (pss_cons (ps_expr (pe_mt (pv 0) T.cL mRef hr (by decide) (passK hX) (pa_cons (pe_cmp (pc_din hu (pv 3) (pv 1))) (pa_cons (pe_gv rfl T.gNOT_NEW) pa_nil)))) (pss_one (ps_ret (pv 3))))), ?_⟩
    refine ⟨_, rfl, p, dx, _, rfl, hp, (by kernel_rfl), p, e, l, q, rfl, hL, D.bind (fun _ k => k) fun x v H1 hx K1 k1 P1 D => ?_⟩
    obtain ⟨rfl, hL1⟩ := P1
    obtain ⟨dx1, a1, c1, g1, all1, hp1, _⟩ := id hL1.ex
    have hnm : x.1.w.all isNm = true := by
      rw [Bt.name_eq] at hx
      obtain ⟨y, _, hx⟩ := Bt.bind_ok hx
      obtain ⟨u, hu, hx⟩ := Bt.bind_ok hx
      cases hx
      have := Bt.refu_false hu
      exact Bt.name_nm (by simpa using this)
    have hd1 : H1 d = some (.dK kvs) := k1 _ _ hd (by simp [hdp])
    refine ⟨_, rfl, p, dx1, _, rfl, hp1, (by kernel_rfl), _, rfl, _, rfl, rfl, p, e, x.2, x.1.at_, _, 4, rfl, hL1, ?_⟩
    show Does A.F [] H1 (refu (decide (V.str (sW x.1.w) = V.str (sW bar))) 4 x.1.at_) _ _ _
    rw [sW_dec hbar]
    refine D.bind (fun _ k => K1.trans (k.mono (by simp))) fun _ v H2 _ K2 _ P2 D => ?_
    obtain ⟨rfl, rfl⟩ := P2
    refine ⟨_, rfl, p, dx1, _, rfl, hp1, (by kernel_rfl), _, rfl, _, rfl, d, _, rfl, DGet.k (k := Sum.inr (sW x.1.w)) hd1, p, e, x.2, x.1.at_, _, 5, rfl, hL1, ?_⟩
    rw [hk _ hnm]
    refine D.bind (fun _ k => K1.trans (k.mono (by simp))) fun _ v H3 _ K3 _ P3 D => ?_
    obtain ⟨rfl, rfl⟩ := P3
    exact ⟨_, rfl, D.ok K3 ⟨rfl, hL1.weak⟩⟩
end
end Br
end
section
set_option Elab.async false
set_option linter.all false
set_option maxRecDepth 100000
set_option maxHeartbeats 1000000
namespace Br
open PySem PySem.Spec PyProof.Rows L2 Xc
open Tilt (Word Fault Bytes ascii isName isSmall isDigit)
open Bt (F cod isNm sgn refu cutB)
section
variable {A : Ad} {H H0 : Hp} {b : Tb} {p : Addr} {e : Nat} {l : List Word} {q : Option Nat} {t : Bt.PT} {σ : L2.St} {Q Q1 : VK} {E : XK} {ta : TA} {β : Type} {Post1 : β → V → Hp → Prop} {vs dvs : List V}
theorem c_new {d : Addr} {bar : Bytes} {had : List Bytes} {k : Bytes × List Word → F β} (hta : ∀ Q' : List V → Hp → Prop, Q' vs H → ta σ H Q') (hvs : vs ++ dvs = [.ref p, .ref d, .str (sW bar)]) (hbar : bar.all isNm = true) (hN : NmD H d had) (R : RdAt A H b p e l q t) (kk : Kp (p :: b.S) H0 H) (D : Does A.F (p :: b.S) H0 (Bt.newM e bar had l >>= k) Post1 Q1 E)
    (h : ∀ x H1, isName x.1 = true → x.1 ∉ had → Kp (p :: b.S) H0 H1 → RdAt A H1 b p e x.2 none t → Does A.F (p :: b.S) H0 (k x) Post1 Q1 E → Q (.str (sW x.1)) H1) : tCall (spNew A) dvs E ta σ H Q := by
  refine hta _ ?_
  show spNew A (vs ++ dvs) H Q E
  rw [hvs]
  refine ⟨p, e, l, q, d, bar, had, rfl, hbar, R.ln, hN, D.bind (fun _ k1 => kk.trans (k1.mono (by simp))) fun x v H1 hm K1 k1 P1 D => ?_⟩
  obtain ⟨rfl, L1⟩ := P1
  obtain ⟨m1, m2, _⟩ := Bt.newM_had hm
  exact h x H1 m1 m2 K1 (R.line k1 L1) D
theorem c_known {d : Addr} {names : List Bytes} {k : Word × List Word → F β} (hta : ∀ Q' : List V → Hp → Prop, Q' [.ref p, .ref d] H → ta σ H Q') (hN : NmD H d names) (R : RdAt A H b p e l q t) (kk : Kp (p :: b.S) H0 H) (D : Does A.F (p :: b.S) H0 (Bt.knwM e names l >>= k) Post1 Q1 E)
    (h : ∀ x H1, isName x.1.w = true → x.1.w ∈ names → Kp (p :: b.S) H0 H1 → RdAt A H1 b p e x.2 (some x.1.at_) t → Does A.F (p :: b.S) H0 (k x) Post1 Q1 E → Q (.str (sW x.1.w)) H1) : tCall (spKnown A) [] E ta σ H Q := by
  refine hta _ ⟨p, e, l, q, d, names, rfl, R.ln, hN, D.bind (fun _ k1 => kk.trans (k1.mono (by simp))) fun x v H1 hm K1 k1 P1 D => ?_⟩
  obtain ⟨rfl, L1⟩ := P1
  obtain ⟨m1, m2⟩ := Bt.knwM_in hm
  exact h x H1 m2 m1 K1 (R.line k1 L1) D
theorem c_reach {s : Bytes} {n q0 : Nat} {k : Bt.PT → F β} (hta : ∀ Q' : List V → Hp → Prop, Q' [.ref b.t, .ref p, .str (sW s), .int ((n : Nat) : Int)] H → ta σ H Q') (hs : s.all isNm = true) (R : RdAt A H b p e l (some q0) t) (hz : t.sz ≤ 1000000) (kk : Kp (p :: b.S) H0 H) (D : Does A.F (p :: b.S) H0 (Bt.reachM t s n q0 >>= k) Post1 Q1 E)
    (h : ∀ H1, Kp (p :: b.S) H0 H1 → RdAt A H1 b p e l (some q0) { t with reached := (s, n) :: t.reached } → Does A.F (p :: b.S) H0 (k { t with reached := (s, n) :: t.reached }) Post1 Q1 E → Q .non H1) : tCall (spReach A) [] E ta σ H Q := by
  refine hta _ ⟨b, p, e, l, q0, t, s, n, rfl, hs, R, hz, D.bind (fun _ k1 => kk.trans k1) fun x v H1 hm K1 k1 P1 D => ?_⟩
  obtain ⟨rfl, R1⟩ := P1
  unfold Bt.reachM at hm
  split at hm
  · cases hm
  · cases hm
    exact h H1 K1 R1 D
theorem c_place {s : Bytes} {hi : Nat} {k : Nat × Bt.PT × List Word → F β} (hta : ∀ Q' : List V → Hp → Prop, Q' [.ref b.t, .ref p, .str (sW s), .int ((hi : Nat) : Int)] H → ta σ H Q') (hs : s.all isNm = true) (hh : hi ≤ 9999) (R : RdAt A H b p e l q t) (hz : t.sz ≤ 1000000) (kk : Kp (p :: b.S) H0 H) (D : Does A.F (p :: b.S) H0 (Bt.placeM e t s hi l >>= k) Post1 Q1 E)
    (h : ∀ n r H1, Kp (p :: b.S) H0 H1 → RdAt A H1 b p e r none { t with reached := (s, n) :: t.reached } → Does A.F (p :: b.S) H0 (k (n, { t with reached := (s, n) :: t.reached }, r)) Post1 Q1 E → Q (.int (n : Nat)) H1) : tCall (spPlace A) [] E ta σ H Q := by
  refine hta _ ⟨b, p, e, l, q, t, s, hi, rfl, hs, hh, R, hz, D.bind (fun _ k1 => kk.trans k1) fun x v H1 hm K1 k1 P1 D => ?_⟩
  obtain ⟨rfl, R1⟩ := P1
  obtain ⟨_, e2, _⟩ := Bt.placeM_ok hm
  obtain ⟨n, t1, r⟩ := x
  simp only at e2
  subst e2
  exact h n r H1 K1 R1 D
theorem c_free {k : Bytes × Bt.PT × List Word → F β} (hta : ∀ Q' : List V → Hp → Prop, Q' [.ref b.t, .ref p] H → ta σ H Q') (R : RdAt A H b p e l q t) (hz : t.sz ≤ 1000000) (kk : Kp (p :: b.S) H0 H) (D : Does A.F (p :: b.S) H0 (Bt.freeM e t l >>= k) Post1 Q1 E)
    (h : ∀ c r H1, c ∈ Bt.coN t → Kp (p :: b.S) H0 H1 → RdAt A H1 b p e r none { t with serving := t.serving ++ [c] } → Does A.F (p :: b.S) H0 (k (c, { t with serving := t.serving ++ [c] }, r)) Post1 Q1 E → c.all isNm = true → Q (.str (sW c)) H1) : tCall (spFree A) [] E ta σ H Q := by
  refine hta _ ⟨b, p, e, l, q, t, rfl, R, hz, D.bind (fun _ k1 => kk.trans k1) fun x v H1 hm K1 k1 P1 D => ?_⟩
  obtain ⟨rfl, R1⟩ := P1
  obtain ⟨e1, _, e2⟩ := Bt.freeM_ok hm
  have hnm : x.1.all isNm = true := by
    rw [Bt.free_eq] at hm
    obtain ⟨y, hy, hm⟩ := Bt.bind_ok hm
    obtain ⟨u, hu, hm⟩ := Bt.bind_ok hm
    cases hm
    exact Bt.name_nm (Bt.knwM_in hy).2
  obtain ⟨c, t1, r⟩ := x
  simp only at e2
  subst e2
  exact h c r H1 e1 K1 R1 D hnm
theorem c_hold {k : Bt.PT × List Word → F β} (hta : ∀ Q' : List V → Hp → Prop, Q' [.ref b.t, .ref p] H → ta σ H Q') (R : RdAt A H b p e l q t) (hz : t.sz ≤ 1000000) (kk : Kp (p :: b.S) H0 H) (D : Does A.F (p :: b.S) H0 (Bt.holdM e t l >>= k) Post1 Q1 E)
    (h : ∀ n r H1, Kp (p :: b.S) H0 H1 → RdAt A H1 b p e r none { t with held := t.held ++ [n] } → Does A.F (p :: b.S) H0 (k ({ t with held := t.held ++ [n] }, r)) Post1 Q1 E → Q .non H1) : tCall (spHold A) [] E ta σ H Q := by
  refine hta _ ⟨b, p, e, l, q, t, rfl, R, hz, D.bind (fun _ k1 => kk.trans k1) fun x v H1 hm K1 k1 P1 D => ?_⟩
  obtain ⟨rfl, R1⟩ := P1
  obtain ⟨w, r, _, _, _, _, e2⟩ := Bt.holdM_ok hm
  subst e2
  exact h w.w r H1 K1 R1 D
theorem sz_re {s : Bytes} {n : Nat} : ({ t with reached := (s, n) :: t.reached } : Bt.PT).sz = t.sz + 1 := by
  simp only [Bt.PT.sz, List.length_cons]; omega
theorem sz_se {c : Bytes} : ({ t with serving := t.serving ++ [c] } : Bt.PT).sz = t.sz + 1 := by
  simp only [Bt.PT.sz, List.length_append, List.length_singleton]; omega
theorem sz_he {c : Bytes} : ({ t with held := t.held ++ [c] } : Bt.PT).sz = t.sz + 1 := by
  simp only [Bt.PT.sz, List.length_append, List.length_singleton]; omega
theorem sz_sw : t.T.switches.length ≤ t.sz := by unfold Bt.PT.sz; omega
theorem sz_la : (Bt.laN t).length ≤ t.sz := by unfold Bt.PT.sz Bt.laN; rw [List.length_map]; omega
theorem sz_co : t.T.coils.length ≤ t.sz := by unfold Bt.PT.sz; omega
theorem sz_de : (Bt.deN t).length ≤ t.sz := by unfold Bt.PT.sz Bt.deN; rw [List.length_map]; omega
theorem sz_held : t.held.length ≤ t.sz := by unfold Bt.PT.sz; omega
theorem sz_serv : t.serving.length ≤ t.sz := by unfold Bt.PT.sz; omega
theorem sz_rch : t.reached.length ≤ t.sz := by unfold Bt.PT.sz; omega
theorem tru_len (ns : List Bytes) : (tru ns).length = ns.length := by unfold tru; rw [List.length_map]
theorem swK_len (sw : List Tilt.Switch) (as : List Addr) : (swK sw as).length ≤ sw.length := by unfold swK; rw [List.length_map, List.length_zip]; omega
theorem coK_len (co : List Tilt.Coil) : (coK co).length = co.length := by unfold coK; rw [List.length_map]
end
theorem lit_at : ("at" : Str) = sW (ascii "at") := by kernel_rfl
theorem lit_table : ("table" : Str) = sW (ascii "table") := by kernel_rfl
theorem lit_balls : ("balls" : Str) = sW (ascii "balls") := by kernel_rfl
theorem lit_close : ("close" : Str) = sW (ascii "close") := by kernel_rfl
theorem lit_open : ("open" : Str) = sW (ascii "open") := by kernel_rfl
theorem lit_turned : ("turned" : Str) = sW (ascii "turned") := by kernel_rfl
theorem lit_most : ("most" : Str) = sW (ascii "most") := by kernel_rfl
theorem lit_rest : ("rest" : Str) = sW (ascii "rest") := by kernel_rfl
theorem lit_hold : ("hold" : Str) = sW (ascii "hold") := by kernel_rfl
theorem lit_by : ("by" : Str) = sW (ascii "by") := by kernel_rfl
theorem lit_holds : ("holds" : Str) = sW (ascii "holds") := by kernel_rfl
theorem lit_for : ("for" : Str) = sW (ascii "for") := by kernel_rfl
theorem lit_till : ("till" : Str) = sW (ascii "till") := by kernel_rfl
theorem lit_drain : ("drain" : Str) = sW Tilt.DRAIN := by kernel_rfl
theorem lit_loop : ("loop" : Str) = sW Tilt.LOOP := by kernel_rfl
theorem lit_nil : ("" : Str) = sW [] := by kernel_rfl
theorem lit_sw : ("switch" : Str) = sW Bt.kSw := by kernel_rfl
theorem lit_la : ("lamp" : Str) = sW Bt.kLa := by kernel_rfl
theorem lit_co : ("coil" : Str) = sW Bt.kCo := by kernel_rfl
theorem lit_de : ("device" : Str) = sW Bt.kDe := by kernel_rfl
theorem lit_ki : ("kick" : Str) = sW Bt.kKi := by kernel_rfl
section
variable {P : Program} {w : World} {K : PySem.W.Frag} {mg : Str → Option Value} {base : Heap} {A : Ad} {f : Addr} {fd : FuncData}
abbrev MRef (P : Program) (w : World) (K : PySem.W.Frag) (mg : Str → Option Value) (base : Heap) (A : Ad) := Mt P w K mg base (CXF P w A.F) A.L "refuse_if" 2 ["self", "wrong", "kind"] (spRefuse A)
abbrev MName (P : Program) (w : World) (K : PySem.W.Frag) (mg : Str → Option Value) (base : Heap) (A : Ad) := Mt P w K mg base (CXF P w A.F) A.L "take_name" 4 ["self"] (spTName A)
abbrev MFix (P : Program) (w : World) (K : PySem.W.Frag) (mg : Str → Option Value) (base : Heap) (A : Ad) := Mt P w K mg base (CXF P w A.F) A.L "take_fixed" 4 ["self", "word"] (spFixed A)
abbrev MNum (P : Program) (w : World) (K : PySem.W.Frag) (mg : Str → Option Value) (base : Heap) (A : Ad) := Mt P w K mg base (CXF P w A.F) A.L "take_number" 4 ["self", "low", "high"] (spTNum A)
abbrev MIf (P : Program) (w : World) (K : PySem.W.Frag) (mg : Str → Option Value) (base : Heap) (A : Ad) := Mt P w K mg base (CXF P w A.F) A.L "take_if" 4 ["self", "word"] (spIf A)
theorem scKnown : FnScope ["line", "known", "name"] ["line", "known"] (defScope (top 49)) := ⟨rfl, rfl, rfl, by decide +kernel, rfl, by decide +kernel, by decide +kernel⟩
theorem ok_known (T : Tx K mg A) (mName : MName P w K mg base A) (mRef : MRef P w K mg base A) (G : Fun K "take_known_name" "take_known_name" (top 49) f fd) : FnOk P w K mg base (CXF P w A.F) 5 f fd ["line", "known"] (spKnown A) := by
  refine G.okF scKnown (fun vs H Q E h => ?_) (fun X0 cdv Ar outer s H vs Q E hX hr h => ?_)
  · obtain ⟨p, e, l, q, d, names, rfl, _⟩ := h
    rfl
  · obtain ⟨p, e, l, q, d, names, rfl, hL, hN, D⟩ := h
    obtain ⟨dx, a, c, g, all, hp, _⟩ := id hL.ex
    obtain ⟨kvs, hd, hk⟩ := id hN
    have D := D.eq Bt.knw_eq
    have hu := hu_of hr
    have hdp : d ≠ p := ne_of hd hp (by intro z; cases z)
    refine ⟨_, pss_cons (ps_set (i := 2) scKnown.nd rfl (Or.inl rfl) (pe_mt0 (pv 0) T.cL mName hr (by decide) (passK hX)))
      (pss_cons (ps_expr (pe_mt (pv 0) T.cL mRef hr (by decide) (passK hX) (pa_cons (pe_cmp (pc_dnotin hu (pv 2) (pv 1))) (pa_cons (pe_gv rfl T.gUNKNOWN) pa_nil)))) (pss_one (ps_ret (pv 2)))), ?_⟩
    refine ⟨_, rfl, p, dx, _, rfl, hp, (by kernel_rfl), p, e, l, q, rfl, hL, D.bind (fun _ k => k) fun x v H1 hx K1 k1 P1 D => ?_⟩
    obtain ⟨rfl, hL1⟩ := P1
    obtain ⟨dx1, a1, c1, g1, all1, hp1, _⟩ := id hL1.ex
    have hnm : x.1.w.all isNm = true := by
      rw [Bt.name_eq] at hx
      obtain ⟨y, _, hx⟩ := Bt.bind_ok hx
      obtain ⟨u, hu, hx⟩ := Bt.bind_ok hx
      cases hx
      have := Bt.refu_false hu
      exact Bt.name_nm (by simpa using this)
    have hd1 : H1 d = some (.dK kvs) := k1 _ _ hd (by simp [hdp])
    refine ⟨_, rfl, p, dx1, _, rfl, hp1, (by kernel_rfl), _, rfl, _, rfl, d, _, rfl, DGet.k (k := Sum.inr (sW x.1.w)) hd1, p, e, x.2, x.1.at_, _, 6, rfl, hL1, ?_⟩
    rw [hk _ hnm]
    refine D.bind (fun _ k => K1.trans (k.mono (by simp))) fun _ v H3 _ K3 _ P3 D => ?_
    obtain ⟨rfl, rfl⟩ := P3
    exact ⟨_, rfl, D.ok K3 ⟨rfl, hL1⟩⟩
theorem scReach : FnScope ["table", "line", "sort", "place"] ["table", "line", "sort", "place"] (defScope (top 50)) := ⟨rfl, rfl, rfl, by decide +kernel, rfl, by decide +kernel, by decide +kernel⟩
theorem ok_reach (T : Tx K mg A) (mRef : MRef P w K mg base A) (G : Fun K "reach" "reach" (top 50) f fd) : FnOk P w K mg base (CXF P w A.F) 3 f fd ["table", "line", "sort", "place"] (spReach A) := by
  refine G.okF scReach (fun vs H Q E h => ?_) (fun X0 cdv Ar outer s H vs Q E hX hr h => ?_)
  · obtain ⟨b, p, e, l, q, t, s, n, rfl, _⟩ := h
    rfl
  · obtain ⟨b, p, e, l, q, t, s, n, rfl, hs, R, hz, D⟩ := h
    obtain ⟨dx, a, c, g, all, hp, _⟩ := id R.ln.ex
    obtain ⟨kvs, h7, hl7, g7⟩ := id R.tab.re
    have D := D.eq Bt.reach_eq
    have hu := hu_of hr
    refine ⟨_, pss_cons (ps_expr (pe_mt (pv 1) T.cL mRef hr (by decide) (passK hX) (pa_cons (pe_cmpR op_le (pv 3) (pe_dget2 hu (pe_fld (pv 0) rfl) (pv 2) (pe_un un_neg pe_int) ⟨rfl, by rfl, by rfl, rfl⟩) (nomark _)) (pa_cons (pe_gv rfl T.gNOT_NEW) pa_nil))))
      (pss_one (ps_dput hu (pe_fld (pv 0) rfl) (pv 2) (pv 3) rfl)), ?_⟩
    have put : Does A.F (p :: b.S) H (.ok { t with reached := (s, n) :: t.reached }) (fun t' v H' => v = .non ∧ RdAt A H' b p e l (some q) t') Q E → sDPut (tFld K (tVar 0) "reached") (tVar 2) (tVar 3) { nx := fun _ H' => Q .non H', rt := Q } [some (.ref b.t), some (.ref p), some (.str (sW s)), some (.int n)] H := fun D => by
      have hsl := sizeLine_eq
      have hrl := sz_rch (t := t)
      refine ⟨_, rfl, _, rfl, b.t, A.T, b.dx, _, _, rfl, R.tab.tab, T.cT, T.nT_reached, tf_reached, _, rfl, b.d7, _, rfl, DPut.k (k := Sum.inr (sW s)) h7 (by omega), ?_⟩
      exact D.ok (Kp.upd (by simp [Tb.S])) ⟨rfl, R.put (by simp [Tb.S]) (R.tab.putRe n hs h7 hl7 g7)⟩
    have fin : ∀ c : Bool, c = t.past s n → spRefuse A [.ref p, .bl c, .int 5] H (fun _ H' => sDPut (tFld K (tVar 0) "reached") (tVar 2) (tVar 3) { nx := fun _ H' => Q .non H', rt := Q } [some (.ref b.t), some (.ref p), some (.str (sW s)), some (.int n)] H') E := fun c hc => by
      subst hc
      refine ⟨p, e, l, q, _, 5, rfl, R.ln, D.bind (fun _ k => k.mono (by simp)) fun _ v H1 _ K1 _ P1 D => ?_⟩
      obtain ⟨rfl, rfl⟩ := P1
      exact put D
    refine ⟨_, rfl, p, dx, _, rfl, hp, (by kernel_rfl), _, rfl, _, rfl, b.t, A.T, b.dx, _, _, rfl, R.tab.tab, T.cT, T.nT_reached, tf_reached, b.d7, rfl, .inl ⟨_, .inl h7⟩, _, rfl, 1, rfl, _, DGet.k (k := Sum.inr (sW s)) h7, ?_⟩
    rw [g7 s hs]
    unfold Bt.PT.past at fin
    cases hlk : t.reached.lookup s with
    | none =>
      rw [hlk] at fin
      exact ⟨_, _, rfl, rfl, fin _ (by simp; omega)⟩
    | some m =>
      rw [hlk] at fin
      refine ⟨_, _, rfl, rfl, fin _ ?_⟩
      show decide ((n : Int) ≤ (m : Int)) = decide (n ≤ m)
      rw [decide_eq_decide]; omega
end
end Br
end
section
set_option Elab.async false
set_option linter.all false
set_option maxRecDepth 100000
set_option maxHeartbeats 1000000
namespace Br
open PySem PySem.Spec PyProof.Rows L2 Xc
open Tilt (Word Fault Bytes ascii isName isSmall isDigit)
open Bt (F cod isNm sgn refu cutB)
theorem g_next {i : Nat} {v : V} {σ : L2.St} {H : Hp} {Q : L2.St → Hp → Prop} (h : Q (σ.set i (some v)) H) : gName i v σ H Q := h
theorem s_next {t u : TS} {D : Ends} {σ : L2.St} {H : Hp} (h : t { D with nx := u D } σ H) : tSeq t u D σ H := h
theorem d_next {te : TE} {D : Ends} {σ : L2.St} {H : Hp} (h : te σ H fun _ H1 => D.nx σ H1) : tDrop te D σ H := h
theorem a_next {te : TE} {g : TG} {D : Ends} {σ : L2.St} {H : Hp} (h : te σ H fun x H1 => g x σ H1 D.nx) : tAsg te g D σ H := h
section
variable {P : Program} {w : World} {K : PySem.W.Frag} {mg : Str → Option Value} {base : Heap} {A : Ad} {f : Addr} {fd : FuncData}
theorem scPlace : FnScope ["table", "line", "sort", "last", "place"] ["table", "line", "sort", "last"] (defScope (top 51)) := ⟨rfl, rfl, rfl, by decide +kernel, rfl, by decide +kernel, by decide +kernel⟩
theorem ok_place (T : Tx K mg A) (mFix : MFix P w K mg base A) (mNum : MNum P w K mg base A) (fReach : Fn P w K mg base (CXF P w A.F) "reach" 3 ["table", "line", "sort", "place"] [] (spReach A)) (G : Fun K "take_place" "take_place" (top 51) f fd) :
    FnOk P w K mg base (CXF P w A.F) 5 f fd ["table", "line", "sort", "last"] (spPlace A) := by
  refine G.okF scPlace (fun vs H Q E h => ?_) (fun X0 cdv Ar outer s H vs Q E hX hr h => ?_)
  · obtain ⟨b, p, e, l, q, t, s, hi, rfl, _⟩ := h
    rfl
  · obtain ⟨b, p, e, l, q, t, s, hi, rfl, hs, hh, R, hz, D⟩ := h
    unfold Bt.placeM at D
    refine ⟨_, pss_cons (ps_expr (pe_mt (pv 1) T.cL mFix hr (by decide) (passK hX) (pa_cons pe_str pa_nil)))
      (pss_cons (ps_set (i := 4) scPlace.nd rfl (Or.inl rfl) (pe_mt (pv 1) T.cL mNum hr (by decide) (passK hX) (pa_cons pe_int (pa_cons (pv 3) pa_nil))))
      (pss_cons (ps_expr (pe_fn fReach hr (by decide) rfl (passK hX) (pa_cons (pv 0) (pa_cons (pv 1) (pa_cons (pv 2) (pa_cons (pv 4) pa_nil)))))) (pss_one (ps_ret (pv 4))))), ?_⟩
    refine c_fixed rfl lit_at (by decide) R (Kp.refl _ _) D fun r H1 K1 R1 D => ?_
    refine c_num (lo := 0) (hi := hi) rfl (fun Q' z => ⟨_, rfl, z⟩) hh R1 K1 D fun x H2 hx K2 R2 D => ?_
    refine g_next ?_
    dsimp only
    refine s_next (d_next ?_)
    refine c_reach (s := s) (n := x.1.1) (fun Q' z => ⟨_, rfl, _, rfl, _, rfl, _, rfl, z⟩) hs R2 hz K2 D fun H3 K3 R3 D => ?_
    exact ⟨_, rfl, D.ok K3 ⟨rfl, R3.weak⟩⟩
theorem scFree : FnScope ["table", "line", "coil"] ["table", "line"] (defScope (top 52)) := ⟨rfl, rfl, rfl, by decide +kernel, rfl, by decide +kernel, by decide +kernel⟩
abbrev FKnown (P : Program) (w : World) (K : PySem.W.Frag) (mg : Str → Option Value) (base : Heap) (A : Ad) := Fn P w K mg base (CXF P w A.F) "take_known_name" 5 ["line", "known"] [] (spKnown A)
theorem ok_free (T : Tx K mg A) (fKn : FKnown P w K mg base A) (mRef : MRef P w K mg base A) (G : Fun K "take_free_coil" "take_free_coil" (top 52) f fd) : FnOk P w K mg base (CXF P w A.F) 6 f fd ["table", "line"] (spFree A) := by
  refine G.okF scFree (fun vs H Q E h => ?_) (fun X0 cdv Ar outer s H vs Q E hX hr h => ?_)
  · obtain ⟨b, p, e, l, q, t, rfl, _⟩ := h
    rfl
  · obtain ⟨b, p, e, l, q, t, rfl, R, hz, D⟩ := h
    have D := D.eq Bt.free_eq
    have hu := hu_of hr
    refine ⟨_, pss_cons (ps_set (i := 2) scFree.nd rfl (Or.inl rfl) (pe_fn fKn hr (by decide) rfl (passK hX) (pa_cons (pv 1) (pa_cons (pe_fld (pv 0) rfl) pa_nil))))
      (pss_cons (ps_expr (pe_mt (pv 1) T.cL mRef hr (by decide) (passK hX) (pa_cons (pe_cmp (pc_din hu (pv 2) (pe_fld (pv 0) rfl))) (pa_cons (pe_gv rfl T.gCLASHING) pa_nil))))
      (pss_cons (ps_dput hu (pe_fld (pv 0) rfl) (pv 2) pe_bl rfl) (pss_one (ps_ret (pv 2))))), ?_⟩
    refine c_known (fun Q' z => ⟨_, rfl, _, rfl, b.t, A.T, b.dx, _, _, rfl, R.tab.tab, T.cT, T.nT_coils, tf_coils, z⟩) R.tab.nmCo R (Kp.refl _ _) D fun x H1 hnm hin K1 R1 D => ?_
    have hw := Bt.name_nm hnm
    refine g_next ?_
    refine c_ref (b' := decide (x.1.w ∈ t.serving)) (kd := 7) rfl (fun Q' z => ⟨_, rfl, _, rfl, b.t, A.T, b.dx, _, _, rfl, R1.tab.tab, T.cT, T.nT_serving, tf_serving, b.d6, _, rfl, DGet.k (k := Sum.inr (sW x.1.w)) R1.tab.se, by rw [valV_tru_some hw]; exact z⟩) R1 K1 D fun hb D => ?_
    have hn : x.1.w ∉ t.serving := of_decide_eq_false hb
    have hsl := sizeLine_eq
    have hsz := sz_serv (t := t)
    refine ⟨_, rfl, b.t, A.T, b.dx, _, _, rfl, R1.tab.tab, T.cT, T.nT_serving, tf_serving, _, rfl, b.d6, _, rfl, DPut.k (k := Sum.inr (sW x.1.w)) R1.tab.se (by rw [tru_len]; omega), ?_⟩
    exact ⟨_, rfl, D.ok (K1.trans (Kp.upd (by simp [Tb.S]))) ⟨rfl, (R1.put (by simp [Tb.S]) (R1.tab.putSe hw hn)).weak⟩⟩
theorem scHold : FnScope ["table", "line", "switch"] ["table", "line"] (defScope (top 53)) := ⟨rfl, rfl, rfl, by decide +kernel, rfl, by decide +kernel, by decide +kernel⟩
theorem ok_hold (T : Tx K mg A) (fKn : FKnown P w K mg base A) (mRef : MRef P w K mg base A) (G : Fun K "hold_switch" "hold_switch" (top 53) f fd) : FnOk P w K mg base (CXF P w A.F) 6 f fd ["table", "line"] (spHold A) := by
  refine G.okF scHold (fun vs H Q E h => ?_) (fun X0 cdv Ar outer s H vs Q E hX hr h => ?_)
  · obtain ⟨b, p, e, l, q, t, rfl, _⟩ := h
    rfl
  · obtain ⟨b, p, e, l, q, t, rfl, R, hz, D⟩ := h
    have D := D.eq Bt.hold_eq
    have hu := hu_of hr
    refine ⟨_, pss_cons (ps_set (i := 2) scHold.nd rfl (Or.inl rfl) (pe_fn fKn hr (by decide) rfl (passK hX) (pa_cons (pv 1) (pa_cons (pe_fld (pv 0) rfl) pa_nil))))
      (pss_cons (ps_expr (pe_mt (pv 1) T.cL mRef hr (by decide) (passK hX) (pa_cons (pe_cmp (pc_din hu (pv 2) (pe_fld (pv 0) rfl))) (pa_cons (pe_gv rfl T.gCLASHING) pa_nil))))
      (pss_one (ps_dput hu (pe_fld (pv 0) rfl) (pv 2) pe_bl rfl))), ?_⟩
    refine c_known (fun Q' z => ⟨_, rfl, _, rfl, b.t, A.T, b.dx, _, _, rfl, R.tab.tab, T.cT, T.nT_switches, tf_switches, z⟩) R.tab.nmSw R (Kp.refl _ _) D fun x H1 hnm hin K1 R1 D => ?_
    have hw := Bt.name_nm hnm
    refine g_next ?_
    refine c_ref (b' := decide (x.1.w ∈ t.held)) (kd := 7) rfl (fun Q' z => ⟨_, rfl, _, rfl, b.t, A.T, b.dx, _, _, rfl, R1.tab.tab, T.cT, T.nT_held, tf_held, b.d5, _, rfl, DGet.k (k := Sum.inr (sW x.1.w)) R1.tab.he, by rw [valV_tru_some hw]; exact z⟩) R1 K1 D fun hb D => ?_
    have hn : x.1.w ∉ t.held := of_decide_eq_false hb
    have hsl := sizeLine_eq
    have hsz := sz_held (t := t)
    refine ⟨_, rfl, b.t, A.T, b.dx, _, _, rfl, R1.tab.tab, T.cT, T.nT_held, tf_held, _, rfl, b.d5, _, rfl, DPut.k (k := Sum.inr (sW x.1.w)) R1.tab.he (by rw [tru_len]; omega), ?_⟩
    exact D.ok (K1.trans (Kp.upd (by simp [Tb.S]))) ⟨rfl, (R1.put (by simp [Tb.S]) (R1.tab.putHe hw hn)).weak⟩
theorem scHead : FnScope ["table", "line"] ["table", "line"] (defScope (top 54)) := ⟨rfl, rfl, rfl, by decide +kernel, rfl, by decide +kernel, by decide +kernel⟩
theorem ok_head (T : Tx K mg A) (mFix : MFix P w K mg base A) (mNum : MNum P w K mg base A) (mName : MName P w K mg base A) (G : Fun K "read_head" "read_head" (top 54) f fd) : FnOk P w K mg base (CXF P w A.F) 5 f fd ["table", "line"] (spRead A Bt.headM) := by
  refine G.okF scHead (fun vs H Q E h => ?_) (fun X0 cdv Ar outer s H vs Q E hX hr h => ?_)
  · obtain ⟨b, p, e, l, q, t, rfl, _⟩ := h
    rfl
  · obtain ⟨b, p, e, l, q, t, rfl, R, hz, D⟩ := h
    unfold Bt.headM at D
    refine ⟨_, pss_cons (ps_expr (pe_mt (pv 1) T.cL mFix hr (by decide) (passK hX) (pa_cons pe_str pa_nil)))
      (pss_cons (ps_expr (pe_mt0 (pv 1) T.cL mName hr (by decide) (passK hX)))
      (pss_cons (ps_expr (pe_mt (pv 1) T.cL mFix hr (by decide) (passK hX) (pa_cons pe_str pa_nil)))
      (pss_one (ps_fld (pv 0) (pe_mt (pv 1) T.cL mNum hr (by decide) (passK hX) (pa_cons pe_int (pa_cons (pe_gv rfl T.gMOST_BALLS) pa_nil))) rfl)))), ?_⟩
    refine c_fixed rfl lit_table (by decide) R (Kp.refl _ _) D fun r H1 K1 R1 D => ?_
    refine c_name rfl R1 K1 D fun x H2 K2 R2 D => ?_
    refine c_fixed rfl lit_balls (by decide) R2 K2 D fun r H3 K3 R3 D => ?_
    refine c_num (lo := 1) (hi := 8) rfl (fun Q' z => z) (by decide) R3 K3 D fun y H4 hy K4 R4 D => ?_
    refine ⟨_, rfl, b.t, A.T, b.dx, _, rfl, R4.tab.tab, T.cT, T.nT_balls, (by show 10 < 1000; decide), ?_⟩
    rw [tf_pb]
    exact D.ok (K4.trans (Kp.upd (by simp [Tb.S]))) ⟨rfl, (R4.put (by simp [Tb.S]) (R4.tab.putT (t' := { t with T := { t.T with name := x.1.w, balls := y.1.1 } }) rfl rfl rfl rfl rfl rfl rfl)).weak⟩
end
end Br
end
section
set_option Elab.async false
set_option linter.all false
set_option maxRecDepth 100000
set_option maxHeartbeats 1000000
namespace Br
open PySem PySem.Spec PyProof.Rows L2 Xc
open Tilt (Word Fault Bytes ascii isName isSmall isDigit)
open Bt (F cod isNm sgn refu cutB)
section
variable {P : Program} {w : World} {K : PySem.W.Frag} {mg : Str → Option Value} {base : Heap} {A : Ad} {f : Addr} {fd : FuncData}
abbrev FNew (P : Program) (w : World) (K : PySem.W.Frag) (mg : Str → Option Value) (base : Heap) (A : Ad) (dvs : List V) := Fn P w K mg base (CXF P w A.F) "take_new_name" 5 ["line", "known", "barred"] dvs (spNew A)
abbrev FPlace (P : Program) (w : World) (K : PySem.W.Frag) (mg : Str → Option Value) (base : Heap) (A : Ad) := Fn P w K mg base (CXF P w A.F) "take_place" 5 ["table", "line", "sort", "last"] [] (spPlace A)
theorem scSwitch : FnScope ["table", "line", "name", "place", "closing", "opening"] ["table", "line"] (defScope (top 55)) := ⟨rfl, rfl, rfl, by decide +kernel, rfl, by decide +kernel, by decide +kernel⟩
theorem ok_switch (T : Tx K mg A) (fNew : FNew P w K mg base A []) (fPl : FPlace P w K mg base A) (mFix : MFix P w K mg base A) (mNum : MNum P w K mg base A) (mIf : MIf P w K mg base A) (G : Fun K "read_switch" "read_switch" (top 55) f fd) :
    FnOk P w K mg base (CXF P w A.F) 6 f fd ["table", "line"] (spRead A Bt.switchM) := by
  refine G.okF scSwitch (fun vs H Q E h => ?_) (fun X0 cdv Ar outer s H vs Q E hX hr h => ?_)
  · obtain ⟨b, p, e, l, q, t, rfl, _⟩ := h
    rfl
  · obtain ⟨b, p, e, l, q, t, rfl, R, hz, D⟩ := h
    unfold Bt.switchM at D
    have hu := hu_of hr
    refine ⟨_, pss_cons (ps_set (i := 2) scSwitch.nd rfl (Or.inl rfl) (pe_fn fNew hr (by decide) rfl (passK hX) (pa_cons (pv 1) (pa_cons (pe_fld (pv 0) rfl) (pa_cons (pe_gv rfl T.gNO_SWITCH_NAME) pa_nil)))))
      (pss_cons (ps_set (i := 3) scSwitch.nd rfl (Or.inl rfl) (pe_fn fPl hr (by decide) rfl (passK hX) (pa_cons (pv 0) (pa_cons (pv 1) (pa_cons pe_str (pa_cons (pe_gv rfl T.gLAST_PLACE) pa_nil))))))
      (pss_cons (ps_expr (pe_mt (pv 1) T.cL mFix hr (by decide) (passK hX) (pa_cons pe_str pa_nil)))
      (pss_cons (ps_set (i := 4) scSwitch.nd rfl (Or.inl rfl) (pe_mt (pv 1) T.cL mNum hr (by decide) (passK hX) (pa_cons pe_int (pa_cons (pe_gv rfl T.gMOST_SAMPLES) pa_nil))))
      (pss_cons (ps_expr (pe_mt (pv 1) T.cL mFix hr (by decide) (passK hX) (pa_cons pe_str pa_nil)))
      (pss_cons (ps_set (i := 5) scSwitch.nd rfl (Or.inl rfl) (pe_mt (pv 1) T.cL mNum hr (by decide) (passK hX) (pa_cons pe_int (pa_cons (pe_gv rfl T.gMOST_SAMPLES) pa_nil))))
      (pss_one (ps_dput hu (pe_fld (pv 0) rfl) (pv 2) (pe_tup (pa_cons (pv 3) (pa_cons (pv 4) (pa_cons (pv 5) (pa_cons (pe_mt (pv 1) T.cL mIf hr (by decide) (passK hX) (pa_cons pe_str pa_nil)) pa_nil))))) rfl))))))), ?_⟩
    refine c_new (vs := [.ref p, .ref b.d1, .str "drain"]) (bar := Tilt.DRAIN) (fun Q' z => ⟨_, rfl, _, rfl, b.t, A.T, b.dx, _, _, rfl, R.tab.tab, T.cT, T.nT_switches, tf_switches, z⟩) (by rw [lit_drain]; rfl) (by decide) R.tab.nmSw R (Kp.refl _ _) D fun n H1 hnm hnew K1 R1 D => ?_
    refine g_next ?_
    dsimp only
    refine s_next (a_next ?_)
    refine c_place (s := Bt.kSw) (hi := 63) (fun Q' z => ⟨_, rfl, _, rfl, by rw [lit_sw]; exact z⟩) (by decide) (by decide) R1 (by omega) K1 D fun pl r H2 K2 R2 D => ?_
    refine c_fixed rfl lit_close (by decide) R2 K2 D fun r H3 K3 R3 D => ?_
    refine c_num (lo := 1) (hi := 31) rfl (fun Q' z => z) (by decide) R3 K3 D fun c H4 hc K4 R4 D => ?_
    refine c_fixed rfl lit_open (by decide) R4 K4 D fun r H5 K5 R5 D => ?_
    refine c_num (lo := 1) (hi := 31) rfl (fun Q' z => z) (by decide) R5 K5 D fun o H6 ho K6 R6 D => ?_
    refine ⟨_, rfl, _, rfl, _, rfl, ?_⟩
    refine c_if (z := "turned") rfl lit_turned (by decide) R6 K6 fun H7 K7 R7 => ?_
    refine ⟨(by show 4 ≤ sizeLine; decide), fun a ha => ?_⟩
    have s8 : Same H7 (upd H7 a (.tup [.int pl, .int c.1.1, .int o.1.1, .bl (Bt.ifM (ascii "turned") o.2).1])) := Kp.same.mp (Kp.new ha)
    have R8 := R7.same s8
    have K8 := K7.trans ((Kp.same.mpr s8).mono (S' := p :: b.S) (by simp))
    obtain ⟨as, hl, h1, g1⟩ := id R8.tab.sw
    have hsl := sizeLine_eq
    have hsw := sz_sw (t := t)
    have hlen := swK_len t.T.switches as
    refine ⟨_, rfl, b.t, A.T, b.dx, _, _, rfl, R8.tab.tab, T.cT, T.nT_switches, tf_switches, _, rfl, b.d1, _, rfl, DPut.k (k := Sum.inr (sW n.1)) h1 (by show (swK t.T.switches as).length < sizeLine; omega), ?_⟩
    exact D.ok (K8.trans (Kp.upd (by simp [Tb.S]))) ⟨rfl, R8.put (by simp [Tb.S]) (R8.tab.putSw (s := ⟨pl, c.1.1, o.1.1, (Bt.ifM (ascii "turned") o.2).1, n.1⟩) (Bt.name_nm hnm) hnew upd_same hl h1 g1)⟩
theorem scLamp : FnScope ["table", "line", "name"] ["table", "line"] (defScope (top 56)) := ⟨rfl, rfl, rfl, by decide +kernel, rfl, by decide +kernel, by decide +kernel⟩
theorem ok_lamp (T : Tx K mg A) (fNew : FNew P w K mg base A []) (fPl : FPlace P w K mg base A) (G : Fun K "read_lamp" "read_lamp" (top 56) f fd) : FnOk P w K mg base (CXF P w A.F) 6 f fd ["table", "line"] (spRead A Bt.lampM) := by
  refine G.okF scLamp (fun vs H Q E h => ?_) (fun X0 cdv Ar outer s H vs Q E hX hr h => ?_)
  · obtain ⟨b, p, e, l, q, t, rfl, _⟩ := h
    rfl
  · obtain ⟨b, p, e, l, q, t, rfl, R, hz, D⟩ := h
    unfold Bt.lampM at D
    have hu := hu_of hr
    refine ⟨_, pss_cons (ps_set (i := 2) scLamp.nd rfl (Or.inl rfl) (pe_fn fNew hr (by decide) rfl (passK hX) (pa_cons (pv 1) (pa_cons (pe_fld (pv 0) rfl) (pa_cons (pe_gv rfl T.gNO_LAMP_NAME) pa_nil)))))
      (pss_cons (ps_expr (pe_fn fPl hr (by decide) rfl (passK hX) (pa_cons (pv 0) (pa_cons (pv 1) (pa_cons pe_str (pa_cons (pe_gv rfl T.gLAST_PLACE) pa_nil))))))
      (pss_one (ps_dput hu (pe_fld (pv 0) rfl) (pv 2) pe_bl rfl))), ?_⟩
    refine c_new (vs := [.ref p, .ref b.d2, .str "loop"]) (bar := Tilt.LOOP) (fun Q' z => ⟨_, rfl, _, rfl, b.t, A.T, b.dx, _, _, rfl, R.tab.tab, T.cT, T.nT_lamps, tf_lamps, z⟩) (by rw [lit_loop]; rfl) (by decide) R.tab.nmLa R (Kp.refl _ _) D fun n H1 hnm hnew K1 R1 D => ?_
    refine g_next ?_
    dsimp only
    refine s_next (d_next ?_)
    refine c_place (s := Bt.kLa) (hi := 63) (fun Q' z => ⟨_, rfl, _, rfl, by rw [lit_la]; exact z⟩) (by decide) (by decide) R1 (by omega) K1 D fun pl r H2 K2 R2 D => ?_
    have hsl := sizeLine_eq
    have hsw := sz_la (t := t)
    refine ⟨_, rfl, b.t, A.T, b.dx, _, _, rfl, R2.tab.tab, T.cT, T.nT_lamps, tf_lamps, _, rfl, b.d2, _, rfl, DPut.k (k := Sum.inr (sW n.1)) R2.tab.la (by rw [tru_len]; show (Bt.laN t).length < sizeLine; omega), ?_⟩
    exact D.ok (K2.trans (Kp.upd (by simp [Tb.S]))) ⟨rfl, R2.put (by simp [Tb.S]) (R2.tab.putLa pl (Bt.name_nm hnm) hnew)⟩
theorem scCoil : FnScope ["table", "line", "name", "most"] ["table", "line"] (defScope (top 57)) := ⟨rfl, rfl, rfl, by decide +kernel, rfl, by decide +kernel, by decide +kernel⟩
theorem ok_coil (T : Tx K mg A) (fNew : FNew P w K mg base A [.str ""]) (fPl : FPlace P w K mg base A) (mFix : MFix P w K mg base A) (mNum : MNum P w K mg base A) (mIf : MIf P w K mg base A) (G : Fun K "read_coil" "read_coil" (top 57) f fd) :
    FnOk P w K mg base (CXF P w A.F) 6 f fd ["table", "line"] (spRead A Bt.coilM) := by
  refine G.okF scCoil (fun vs H Q E h => ?_) (fun X0 cdv Ar outer s H vs Q E hX hr h => ?_)
  · obtain ⟨b, p, e, l, q, t, rfl, _⟩ := h
    rfl
  · obtain ⟨b, p, e, l, q, t, rfl, R, hz, D⟩ := h
    unfold Bt.coilM at D
    have hu := hu_of hr
    refine ⟨_, pss_cons (ps_set (i := 2) scCoil.nd rfl (Or.inl rfl) (pe_fn fNew hr (by decide) rfl (passK hX) (pa_cons (pv 1) (pa_cons (pe_fld (pv 0) rfl) pa_nil))))
      (pss_cons (ps_expr (pe_fn fPl hr (by decide) rfl (passK hX) (pa_cons (pv 0) (pa_cons (pv 1) (pa_cons pe_str (pa_cons (pe_gv rfl T.gLAST_COIL_PLACE) pa_nil))))))
      (pss_cons (ps_expr (pe_mt (pv 1) T.cL mFix hr (by decide) (passK hX) (pa_cons pe_str pa_nil)))
      (pss_cons (ps_set (i := 3) scCoil.nd rfl (Or.inl rfl) (pe_mt (pv 1) T.cL mNum hr (by decide) (passK hX) (pa_cons pe_int (pa_cons (pe_gv rfl T.gMOST_ON) pa_nil))))
      (pss_cons (ps_expr (pe_mt (pv 1) T.cL mFix hr (by decide) (passK hX) (pa_cons pe_str pa_nil)))
      (pss_cons (ps_expr (pe_mt (pv 1) T.cL mNum hr (by decide) (passK hX) (pa_cons pe_int (pa_cons (pe_gv rfl T.gMOST_REST) pa_nil))))
      (pss_cons (ps_if (pt_val (pe_mt (pv 1) T.cL mIf hr (by decide) (passK hX) (pa_cons pe_str pa_nil))) (pss_one (ps_expr (pe_mt (pv 1) T.cL mNum hr (by decide) (passK hX) (pa_cons pe_int (pa_cons (pe_gv rfl T.gMOST_HOLD) pa_nil))))) pss_nil)
      (pss_one (ps_dput hu (pe_fld (pv 0) rfl) (pv 2) (pv 3) rfl)))))))), ?_⟩
    refine c_new (vs := [.ref p, .ref b.d3]) (bar := []) (fun Q' z => ⟨_, rfl, _, rfl, b.t, A.T, b.dx, _, _, rfl, R.tab.tab, T.cT, T.nT_coils, tf_coils, z⟩) (by rw [lit_nil]; rfl) (by decide) R.tab.nmCo R (Kp.refl _ _) D fun n H1 hnm hnew K1 R1 D => ?_
    refine g_next ?_
    dsimp only
    refine s_next (d_next ?_)
    refine c_place (s := Bt.kCo) (hi := 31) (fun Q' z => ⟨_, rfl, _, rfl, by rw [lit_co]; exact z⟩) (by decide) (by decide) R1 (by omega) K1 D fun pl r H2 K2 R2 D => ?_
    refine c_fixed rfl lit_most (by decide) R2 K2 D fun r H3 K3 R3 D => ?_
    refine c_num (lo := 1) (hi := 1023) rfl (fun Q' z => z) (by decide) R3 K3 D fun m H4 hm K4 R4 D => ?_
    refine c_fixed rfl lit_rest (by decide) R4 K4 D fun r H5 K5 R5 D => ?_
    refine c_num (lo := 1) (hi := 4095) rfl (fun Q' z => z) (by decide) R5 K5 D fun o H6 ho K6 R6 D => ?_
    have fin : ∀ (hd : Nat) (r' : List Word) (H7 : Hp), Kp (p :: b.S) H H7 → RdAt A H7 b p e r' none { t with reached := (Bt.kCo, pl) :: t.reached } →
        Does A.F (p :: b.S) H (.ok (({ ({ t with reached := (Bt.kCo, pl) :: t.reached } : Bt.PT) with T := { t.T with coils := t.T.coils ++ [⟨pl, m.1.1, o.1.1, hd, n.1⟩] } } : Bt.PT), r')) (fun x v H' => v = .non ∧ RdAt A H' b p e x.2 none x.1) Q E →
        sDPut (tFld K (tVar 0) "coils") (tVar 2) (tVar 3) { nx := fun _ H' => Q .non H', rt := Q } [some (.ref b.t), some (.ref p), some (.str (sW n.1)), some (.int m.1.1)] H7 := fun hd r' H7 K7 R7 D => by
      have hsl := sizeLine_eq
      have hsw := sz_co (t := t)
      refine ⟨_, rfl, _, rfl, b.t, A.T, b.dx, _, _, rfl, R7.tab.tab, T.cT, T.nT_coils, tf_coils, _, rfl, b.d3, _, rfl, DPut.k (k := Sum.inr (sW n.1)) R7.tab.co (by rw [coK_len]; show t.T.coils.length < sizeLine; omega), ?_⟩
      exact D.ok (K7.trans (Kp.upd (by simp [Tb.S]))) ⟨rfl, R7.put (by simp [Tb.S]) (R7.tab.putCo (c := ⟨pl, m.1.1, o.1.1, hd, n.1⟩) (Bt.name_nm hnm) hnew)⟩
    refine c_if (z := "hold") rfl lit_hold (by decide) R6 K6 fun H7 K7 R7 => ?_
    refine ⟨_, rfl, ?_⟩
    unfold Bt.hoptM at D
    refine ite2 (fun c => ?_) (fun c => ?_)
    · rw [if_pos c, Bt.asc] at D
      refine c_num (lo := 1) (hi := 15) rfl (fun Q' z => z) (by decide) R7 K7 D fun hd H8 hhd K8 R8 D => ?_
      exact fin hd.1.1 hd.2 H8 K8 R8.weak D
    · rw [if_neg c] at D
      exact fin 0 _ H7 K7 R7 D
end
end Br
end
section
set_option Elab.async false
set_option linter.all false
set_option maxRecDepth 100000
set_option maxHeartbeats 1000000
namespace Br
open PySem PySem.Spec PyProof.Rows L2 Xc
open Tilt (Word Fault Bytes ascii isName isSmall isDigit)
open Bt (F cod isNm sgn refu cutB)
abbrev SO : List V := [.str "switch", .str "lamp", .str "coil", .str "device", .str "kick"]
theorem Tx.sorts {K : PySem.W.Frag} {mg : Str → Option Value} {A : Ad} (T : Tx K mg A) (H : Hp) : SqT K H A.so SO := by
  rcases T.so with (h | ⟨o, h⟩) | h
  · cases h
  · cases h
  · exact .inr h
theorem so_eq : SO = [.str (sW Bt.kSw), .str (sW Bt.kLa), .str (sW Bt.kCo), .str (sW Bt.kDe), .str (sW Bt.kKi)] := by
  unfold SO
  rw [lit_sw, lit_la, lit_co, lit_de, lit_ki]
theorem eqV_sW {n w : Bytes} (h : n.all isNm = true) : eqV (.str (sW n)) (.str (sW w)) = decide (w = n) := by
  show (sW n == sW w) = _
  rw [Bool.eq_iff_iff, beq_iff_eq, decide_eq_true_eq]
  exact ⟨fun z => (sW_eq h).mp z.symm, fun z => by rw [z]⟩
theorem in_sorts (w : Bytes) : inV (.str (sW w)) SO = !decide (Bt.sortOf w = 0) := by
  rw [so_eq]
  unfold inV
  simp only [List.any_cons, List.any_nil, Bool.or_false]
  rw [eqV_sW (by decide), eqV_sW (by decide), eqV_sW (by decide), eqV_sW (by decide), eqV_sW (by decide)]
  unfold Bt.sortOf
  by_cases h1 : w = Bt.kSw
  · subst h1; decide
  · by_cases h2 : w = Bt.kLa
    · subst h2; decide
    · by_cases h3 : w = Bt.kCo
      · subst h3; decide
      · by_cases h4 : w = Bt.kDe
        · subst h4; decide
        · by_cases h5 : w = Bt.kKi
          · subst h5; decide
          · simp [h1, h2, h3, h4, h5]
theorem so_idx : ∀ y : Nat, y ≤ 5 → ∃ z, SO[y - 1]? = some z ∧ eqV z (.str (sW (Bt.sortN y))) = true ∧ ∀ (m : Nat) (z' : V), m < y - 1 → SO[m]? = some z' → eqV z' (.str (sW (Bt.sortN y))) = false := by
  have nm : ∀ n ∈ [Bt.kSw, Bt.kLa, Bt.kCo, Bt.kDe, Bt.kKi], n.all isNm = true := by decide
  have key : ∀ y : Nat, y ≤ 5 → ∃ z, ([Bt.kSw, Bt.kLa, Bt.kCo, Bt.kDe, Bt.kKi] : List Bytes)[y - 1]? = some z ∧ decide (Bt.sortN y = z) = true ∧ ∀ m : Nat, m < y - 1 → ∀ z', ([Bt.kSw, Bt.kLa, Bt.kCo, Bt.kDe, Bt.kKi] : List Bytes)[m]? = some z' → decide (Bt.sortN y = z') = false := by
    intro y hy
    have : y = 0 ∨ y = 1 ∨ y = 2 ∨ y = 3 ∨ y = 4 ∨ y = 5 := by omega
    rcases this with rfl | rfl | rfl | rfl | rfl | rfl
    · exact ⟨_, rfl, by decide, fun m hm => absurd hm (by simp)⟩
    · exact ⟨_, rfl, by decide, fun m hm => absurd hm (by simp)⟩
    · refine ⟨_, rfl, by decide, fun m hm z' hz => ?_⟩
      have : m = 0 := by omega
      subst this
      cases hz; decide
    · refine ⟨_, rfl, by decide, fun m hm z' hz => ?_⟩
      have : m = 0 ∨ m = 1 := by omega
      rcases this with q | q <;> (subst q; cases hz; decide)
    · refine ⟨_, rfl, by decide, fun m hm z' hz => ?_⟩
      have : m = 0 ∨ m = 1 ∨ m = 2 := by omega
      rcases this with q | q | q <;> (subst q; cases hz; decide)
    · refine ⟨_, rfl, by decide, fun m hm z' hz => ?_⟩
      have : m = 0 ∨ m = 1 ∨ m = 2 ∨ m = 3 := by omega
      rcases this with q | q | q | q <;> (subst q; cases hz; decide)
  intro y hy
  obtain ⟨z, h1, h2, h3⟩ := key y hy
  have so2 : SO = ([Bt.kSw, Bt.kLa, Bt.kCo, Bt.kDe, Bt.kKi] : List Bytes).map fun n => V.str (sW n) := so_eq
  refine ⟨.str (sW z), by rw [so2, List.getElem?_map, h1]; rfl, ?_, fun m z' hm hz => ?_⟩
  · rw [eqV_sW (nm z (List.mem_of_getElem? h1))]; exact h2
  · rw [so2, List.getElem?_map] at hz
    obtain ⟨n, hn, rfl⟩ := Option.map_eq_some_iff.mp hz
    rw [eqV_sW (nm n (List.mem_of_getElem? hn))]
    exact h3 m hm n hn
theorem sort4 (w : Bytes) : decide (w = Bt.kDe) = decide (Bt.sortOf w = 4) := by
  rw [decide_eq_decide]
  constructor
  · rintro rfl; decide
  · intro h
    have := Bt.sortN_of (w := w) (by omega)
    rw [h] at this; exact this.symm
theorem sort5 (w : Bytes) : decide (w = Bt.kKi) = decide (Bt.sortOf w = 5) := by
  rw [decide_eq_decide]
  constructor
  · rintro rfl; decide
  · intro h
    have := Bt.sortN_of (w := w) (by omega)
    rw [h] at this; exact this.symm
def spSort (A : Ad) : Sp := fun vs H Q E => ∃ b p e l q t y, vs = [.ref (Tb.t b), .ref p, .str (sW (Bt.sortN y))] ∧ y ≤ 5 ∧ RdAt A H b p e l q t ∧ Does A.F (p :: b.S) H (Bt.sortM e t y l) (fun x v H' => v = .str (sW (Bt.sortN x.1)) ∧ RdAt A H' b p e x.2 none t) Q E
def spRest (A : Ad) : Sp := fun vs H Q E => ∃ b p e l q t y, vs = [.ref (Tb.t b), .ref p, .str (sW (Bt.sortN y))] ∧ 1 ≤ y ∧ y ≤ 5 ∧ RdAt A H b p e l q t ∧ t.sz ≤ 500000 ∧ Does A.F (p :: b.S) H (Bt.restM e t y l) (fun x v H' => v = .non ∧ RdAt A H' b p e x.2 none x.1) Q E
section
variable {A : Ad} {H H0 : Hp} {b : Tb} {p : Addr} {e : Nat} {l : List Word} {q : Option Nat} {t : Bt.PT} {σ : L2.St} {i : Nat} {Q Q1 : VK} {E : XK} {ta : TA} {β : Type} {Post1 : β → V → Hp → Prop}
theorem c_take {k : Word × List Word → F β} (hσ : σ[i]? = some (some (.ref p))) (R : RdAt A H b p e l q t) (kk : Kp (p :: b.S) H0 H) (D : Does A.F (p :: b.S) H0 (Tilt.next e l >>= k) Post1 Q1 E)
    (h : ∀ x H1, Kp (p :: b.S) H0 H1 → RdAt A H1 b p e x.2 (some x.1.at_) t → Does A.F (p :: b.S) H0 (k x) Post1 Q1 E → Q (wV x.1) H1) : tMeth A.L "take" (spTake A) [] E (tVar i) tNil σ H Q := by
  obtain ⟨dx, a, c, g, all, hp, _⟩ := id R.ln.ex
  refine ⟨_, hσ, p, dx, _, rfl, hp, (by kernel_rfl), p, e, l, q, rfl, R.ln, D.bind (fun _ k1 => kk.trans (k1.mono (by simp))) fun x v H1 hm K1 k1 P1 D => ?_⟩
  obtain ⟨rfl, L1, _⟩ := P1
  exact h x H1 K1 (R.line k1 L1) D
theorem c_read {m : Nat → Bt.PT → List Word → F (Bt.PT × List Word)} {k : Bt.PT × List Word → F β} (hta : ∀ Q' : List V → Hp → Prop, Q' [.ref b.t, .ref p] H → ta σ H Q') (R : RdAt A H b p e l q t) (hz : t.sz ≤ 500000) (kk : Kp (p :: b.S) H0 H) (D : Does A.F (p :: b.S) H0 (m e t l >>= k) Post1 Q1 E)
    (h : ∀ x H1, m e t l = .ok x → Kp (p :: b.S) H0 H1 → RdAt A H1 b p e x.2 none x.1 → Does A.F (p :: b.S) H0 (k x) Post1 Q1 E → Q .non H1) : tCall (spRead A m) [] E ta σ H Q := by
  refine hta _ ⟨b, p, e, l, q, t, rfl, R, hz, D.bind (fun _ k1 => kk.trans k1) fun x v H1 hm K1 k1 P1 D => ?_⟩
  obtain ⟨rfl, R1⟩ := P1
  exact h x H1 hm K1 R1 D
theorem bind_id {α : Type} (m : F α) : (m >>= fun x => .ok x) = m := by cases m <;> rfl
end
section
variable {P : Program} {w : World} {K : PySem.W.Frag} {mg : Str → Option Value} {base : Heap} {A : Ad} {f : Addr} {fd : FuncData}
theorem scSort : FnScope ["table", "line", "earlier", "sort"] ["table", "line", "earlier"] (defScope (top 60)) := ⟨rfl, rfl, rfl, by decide +kernel, rfl, by decide +kernel, by decide +kernel⟩
theorem ok_sort (T : Tx K mg A) (mTake : Mt P w K mg base (CXF P w A.F) A.L "take" 3 ["self"] (spTake A)) (mRef : MRef P w K mg base A) (G : Fun K "take_sort" "take_sort" (top 60) f fd) : FnOk P w K mg base (CXF P w A.F) 5 f fd ["table", "line", "earlier"] (spSort A) := by
  refine G.okF scSort (fun vs H Q E h => ?_) (fun X0 cdv Ar outer s H vs Q E hX hr h => ?_)
  · obtain ⟨b, p, e, l, q, t, y, rfl, _⟩ := h
    rfl
  · obtain ⟨b, p, e, l, q, t, y, rfl, hy, R, D⟩ := h
    have D := D.eq Bt.sort_eq
    refine ⟨_, pss_cons (ps_set (i := 3) scSort.nd rfl (Or.inl rfl) (pe_mt0 (pv 1) T.cL mTake hr (by decide) (passK hX)))
      (pss_cons (ps_expr (pe_mt (pv 1) T.cL mRef hr (by decide) (passK hX) (pa_cons (pe_cmpR op_notIn_seq (pv 3) (pe_gv rfl T.gSORTS) (by with_unfolding_all rfl)) (pa_cons (pe_gv rfl T.gWRONG_WORD) pa_nil))))
      (pss_cons (ps_expr (pe_mt (pv 1) T.cL mRef hr (by decide) (passK hX) (pa_cons (pe_cmpR op_lt (pe_bm PySem.F.plainAttrs_tuple PySem.F.slot_tuple_index PySem.F.type_tuple_index mt_indexT (pe_gv rfl T.gSORTS) (pa_cons (pv 3) pa_nil)) (pe_bm PySem.F.plainAttrs_tuple PySem.F.slot_tuple_index PySem.F.type_tuple_index mt_indexT (pe_gv rfl T.gSORTS) (pa_cons (pv 2) pa_nil)) (nomark _)) (pa_cons (pe_gv rfl T.gWRONG_WORD) pa_nil))))
      (pss_cons (ps_expr (pe_mt (pv 1) T.cL mRef hr (by decide) (passK hX) (pa_cons (pe_and (pe_cmpR op_eq (pv 3) pe_str (nomark _)) (pe_one (pe_cmpR op_eq (pe_callB call_lenD rfl T.b_len PySem.boot_len (pa_cons (pe_fld (pv 0) rfl) pa_nil)) (pe_gv rfl T.gMOST_DEVICES) (nomark _)))) (pa_cons (pe_gv rfl T.gWRONG_WORD) pa_nil))))
      (pss_cons (ps_expr (pe_mt (pv 1) T.cL mRef hr (by decide) (passK hX) (pa_cons (pe_and (pe_cmpR op_eq (pv 3) pe_str (nomark _)) (pe_one (pe_cmpR op_eq (pe_fld (pv 0) rfl) (pe_gv rfl T.gMOST_KICKS) (nomark _)))) (pa_cons (pe_gv rfl T.gWRONG_WORD) pa_nil))))
      (pss_one (ps_ret (pv 3))))))), ?_⟩
    refine c_take rfl R (Kp.refl _ _) D fun x H1 K1 R1 D => ?_
    refine g_next ?_
    refine c_ref (b' := decide (Bt.sortOf x.1.w = 0)) (kd := 3) rfl (fun Q' z => ⟨_, rfl, A.so, SO, rfl, .inr (T.sorts H1), rfl, rfl, ?_⟩) R1 K1 D fun hb D => ?_
    · have e0 : inV (wV x.1) SO = !decide (Bt.sortOf x.1.w = 0) := in_sorts x.1.w
      rw [if_pos rfl, e0, Bool.not_not]; exact z
    have h0 : Bt.sortOf x.1.w ≠ 0 := of_decide_eq_false hb
    have hN := Bt.sortN_of h0
    have h5 := Bt.sortOf_le x.1.w
    obtain ⟨z1, i1, i2, i3⟩ := so_idx (Bt.sortOf x.1.w) h5
    rw [hN] at i2 i3
    obtain ⟨z2, j1, j2, j3⟩ := so_idx y hy
    refine c_ref (b' := decide (Bt.sortOf x.1.w - 1 < y - 1)) (kd := 3) rfl (fun Q' z => ⟨.inr (.inl ⟨rfl, T.soT⟩), _, rfl, A.so, SO, _, _, z1, rfl, rfl, T.sorts H1, rfl, rfl, i1, i2, i3, .inr (.inl ⟨rfl, T.soT⟩), _, rfl, A.so, SO, _, _, z2, rfl, rfl, T.sorts H1, rfl, rfl, j1, j2, j3, _, _, rfl, rfl, ?_⟩) R1 K1 D fun hb2 D => ?_
    · have e1 : decide (((Bt.sortOf x.1.w - 1 : Nat) : Int) < ((y - 1 : Nat) : Int)) = decide (Bt.sortOf x.1.w - 1 < y - 1) := by rw [decide_eq_decide]; omega
      rw [← e1] at z; exact z
    have ed : decide (V.str (sW x.1.w) = V.str "device") = decide (Bt.sortOf x.1.w = 4) := by rw [lit_de, sW_dec (by decide), sort4]
    have ek : decide (V.str (sW x.1.w) = V.str "kick") = decide (Bt.sortOf x.1.w = 5) := by rw [lit_ki, sW_dec (by decide), sort5]
    refine c_ref (b' := decide (Bt.sortOf x.1.w = 4) && decide (t.T.devices.length = 8)) (kd := 3) rfl (fun Q' z => ⟨_, rfl, rfl, _, rfl, ?_⟩) R1 K1 D fun hb3 D => ?_
    · show if decide (V.str (sW x.1.w) = V.str "device") = true then _ else _
      rw [ed]
      refine ite2 (fun c => ⟨_, rfl, b.t, A.T, b.dx, _, _, rfl, R1.tab.tab, T.cT, T.nT_devices, tf_devices, b.d4, _, rfl, R1.tab.de, rfl, ?_⟩) (fun c => ?_)
      · rw [dInt, tru_len]
        have e1 : decide (((Bt.deN t).length : Int) = 8) = decide (t.T.devices.length = 8) := by
          rw [decide_eq_decide]; unfold Bt.deN; rw [List.length_map]; omega
        rw [e1]
        rw [c, Bool.true_and] at z; exact z
      · rw [eq_false_of_ne_true c, Bool.false_and] at z; exact z
    refine c_ref (b' := decide (Bt.sortOf x.1.w = 5) && decide (t.T.kicks.length = 8)) (kd := 3) rfl (fun Q' z => ⟨_, rfl, rfl, _, rfl, ?_⟩) R1 K1 D fun hb4 D => ?_
    · show if decide (V.str (sW x.1.w) = V.str "kick") = true then _ else _
      rw [ek]
      refine ite2 (fun c => ⟨_, rfl, b.t, A.T, b.dx, _, _, rfl, R1.tab.tab, T.cT, T.nT_kicks, tf_kicks, rfl, ?_⟩) (fun c => ?_)
      · rw [dInt]
        have e1 : decide ((t.T.kicks.length : Int) = 8) = decide (t.T.kicks.length = 8) := by
          rw [decide_eq_decide]; omega
        rw [e1]
        rw [c, Bool.true_and] at z; exact z
      · rw [eq_false_of_ne_true c, Bool.false_and] at z; exact z
    exact ⟨_, rfl, D.ok K1 ⟨by show wV x.1 = _; rw [hN]; rfl, R1.weak⟩⟩
end
end Br
end
section
set_option Elab.async false
set_option linter.all false
set_option maxRecDepth 100000
set_option maxHeartbeats 1000000
namespace Br
open PySem PySem.Spec PyProof.Rows L2 Xc
open Tilt (Word Fault Bytes ascii isName isSmall isDigit)
open Bt (F cod isNm sgn refu cutB)
section
variable {P : Program} {w : World} {K : PySem.W.Frag} {mg : Str → Option Value} {base : Heap} {A : Ad} {f : Addr} {fd : FuncData}
abbrev FRead (P : Program) (w : World) (K : PySem.W.Frag) (mg : Str → Option Value) (base : Heap) (A : Ad) (x : Str) (k : Nat) (m : Nat → Bt.PT → List Word → F (Bt.PT × List Word)) := Fn P w K mg base (CXF P w A.F) x k ["table", "line"] [] (spRead A m)
theorem scRest : FnScope ["table", "line", "sort"] ["table", "line", "sort"] (defScope (top 61)) := ⟨rfl, rfl, rfl, by decide +kernel, rfl, by decide +kernel, by decide +kernel⟩
theorem ok_rest (T : Tx K mg A) (f1 : FRead P w K mg base A "read_switch" 6 Bt.switchM) (f2 : FRead P w K mg base A "read_lamp" 6 Bt.lampM) (f3 : FRead P w K mg base A "read_coil" 6 Bt.coilM) (f4 : FRead P w K mg base A "read_device" 7 Bt.deviceM) (f5 : FRead P w K mg base A "read_kick" 7 Bt.kickM)
    (G : Fun K "read_rest" "read_rest" (top 61) f fd) : FnOk P w K mg base (CXF P w A.F) 8 f fd ["table", "line", "sort"] (spRest A) := by
  refine G.okF scRest (fun vs H Q E h => ?_) (fun X0 cdv Ar outer s H vs Q E hX hr h => ?_)
  · obtain ⟨b, p, e, l, q, t, y, rfl, _⟩ := h
    rfl
  · obtain ⟨b, p, e, l, q, t, y, rfl, hy1, hy5, R, hz, D⟩ := h
    refine ⟨_, pss_one (ps_if (pt_cmpR op_eq (pv 2) pe_str (nomark _)) (pss_one (ps_expr (pe_fn f1 hr (by decide) rfl (passK hX) (pa_cons (pv 0) (pa_cons (pv 1) pa_nil)))))
      (pss_one (ps_if (pt_cmpR op_eq (pv 2) pe_str (nomark _)) (pss_one (ps_expr (pe_fn f2 hr (by decide) rfl (passK hX) (pa_cons (pv 0) (pa_cons (pv 1) pa_nil)))))
      (pss_one (ps_if (pt_cmpR op_eq (pv 2) pe_str (nomark _)) (pss_one (ps_expr (pe_fn f3 hr (by decide) rfl (passK hX) (pa_cons (pv 0) (pa_cons (pv 1) pa_nil)))))
      (pss_one (ps_if (pt_cmpR op_eq (pv 2) pe_str (nomark _)) (pss_one (ps_expr (pe_fn f4 hr (by decide) rfl (passK hX) (pa_cons (pv 0) (pa_cons (pv 1) pa_nil)))))
      (pss_one (ps_expr (pe_fn f5 hr (by decide) rfl (passK hX) (pa_cons (pv 0) (pa_cons (pv 1) pa_nil)))))))))))), ?_⟩
    have go : ∀ {m : Nat → Bt.PT → List Word → F (Bt.PT × List Word)}, Bt.restM e t y l = m e t l → tDrop (tCall (spRead A m) [] E (tCons (tVar 0) (tCons (tVar 1) tNil))) { nx := fun _ H' => Q .non H', rt := Q } [some (.ref b.t), some (.ref p), some (.str (sW (Bt.sortN y)))] H := fun {m} hm => by
      have D := (D.eq hm).eq (bind_id _).symm
      refine d_next ?_
      refine c_read (fun Q' z => ⟨_, rfl, _, rfl, z⟩) R hz (Kp.refl _ _) D fun x H1 _ K1 R1 D => ?_
      exact D.ok K1 ⟨rfl, R1⟩
    have step : ∀ {z : Str} {n : Bytes} {ta tb : TS}, z = sW n → n.all isNm = true → (Bt.sortN y = n → ta { nx := fun _ H' => Q .non H', rt := Q } [some (.ref b.t), some (.ref p), some (.str (sW (Bt.sortN y)))] H) → (¬ Bt.sortN y = n → tb { nx := fun _ H' => Q .non H', rt := Q } [some (.ref b.t), some (.ref p), some (.str (sW (Bt.sortN y)))] H) →
        tIfS (tTest (tOp rEq (tVar 2) (tC (.str z)))) ta tb { nx := fun _ H' => Q .non H', rt := Q } [some (.ref b.t), some (.ref p), some (.str (sW (Bt.sortN y)))] H := fun hz hn h1 h2 => by
      refine ⟨_, rfl, rfl, _, rfl, ?_⟩
      rw [hz, sW_dec hn]
      exact ite2 (fun c => h1 (of_decide_eq_true c)) (fun c => h2 fun z => c (decide_eq_true z))
    have ys : y = 1 ∨ y = 2 ∨ y = 3 ∨ y = 4 ∨ y = 5 := by omega
    refine step lit_sw (by decide) (fun c => go ?_) fun c1 => step lit_la (by decide) (fun c => go ?_) fun c2 => step lit_co (by decide) (fun c => go ?_) fun c3 => step lit_de (by decide) (fun c => go ?_) fun c4 => go ?_
    · rcases ys with rfl | rfl | rfl | rfl | rfl <;> first | rfl | exact absurd c (by decide)
    · rcases ys with rfl | rfl | rfl | rfl | rfl <;> first | rfl | exact absurd c (by decide)
    · rcases ys with rfl | rfl | rfl | rfl | rfl <;> first | rfl | exact absurd c (by decide)
    · rcases ys with rfl | rfl | rfl | rfl | rfl <;> first | rfl | exact absurd c (by decide)
    · rcases ys with rfl | rfl | rfl | rfl | rfl <;> first | rfl | exact absurd rfl c1 | exact absurd rfl c2 | exact absurd rfl c3 | exact absurd rfl c4
theorem scDevice : FnScope ["table", "line", "name", "holds"] ["table", "line"] (defScope (top 58)) := ⟨rfl, rfl, rfl, by decide +kernel, rfl, by decide +kernel, by decide +kernel⟩
theorem ok_device (T : Tx K mg A) (fNew : FNew P w K mg base A [.str ""]) (fFree : Fn P w K mg base (CXF P w A.F) "take_free_coil" 6 ["table", "line"] [] (spFree A)) (fHold : Fn P w K mg base (CXF P w A.F) "hold_switch" 6 ["table", "line"] [] (spHold A)) (mFix : MFix P w K mg base A) (mIf : MIf P w K mg base A)
    (mMore : Mt P w K mg base CX0 A.L "more" 1 ["self"] (spMore A)) (mComes : Mt P w K mg base CX0 A.L "comes" 2 ["self", "word"] (spComes A)) (G : Fun K "read_device" "read_device" (top 58) f fd) : FnOk P w K mg base (CXF P w A.F) 7 f fd ["table", "line"] (spRead A Bt.deviceM) := by
  refine G.okF scDevice (fun vs H Q E h => ?_) (fun X0 cdv Ar outer s H vs Q E hX hr h => ?_)
  · obtain ⟨b, p, e, l, q, t, rfl, _⟩ := h
    rfl
  · obtain ⟨b, p, e, l, q, t, rfl, R, hz, D⟩ := h
    unfold Bt.deviceM at D
    have hu := hu_of hr
    have own := ownK (C := A.F) (E := E) hX top_cxOf
    refine ⟨_, pss_cons (ps_set (i := 2) scDevice.nd rfl (Or.inl rfl) (pe_fn fNew hr (by decide) rfl (passK hX) (pa_cons (pv 1) (pa_cons (pe_fld (pv 0) rfl) pa_nil))))
      (pss_cons (ps_expr (pe_mt (pv 1) T.cL mFix hr (by decide) (passK hX) (pa_cons pe_str pa_nil)))
      (pss_cons (ps_expr (pe_fn fFree hr (by decide) rfl (passK hX) (pa_cons (pv 0) (pa_cons (pv 1) pa_nil))))
      (pss_cons (ps_expr (pe_mt (pv 1) T.cL mFix hr (by decide) (passK hX) (pa_cons pe_str pa_nil)))
      (pss_cons (ps_expr (pe_fn fHold hr (by decide) rfl (passK hX) (pa_cons (pv 0) (pa_cons (pv 1) pa_nil))))
      (pss_cons (ps_set (i := 3) scDevice.nd rfl (Or.inl rfl) pe_int)
      (pss_cons (ps_while own (PW.pt (pw_and (pt_cmpR op_lt (pv 3) (pe_gv rfl T.gMOST_HELD) (nomark _)) (pw_and (pt_val (pe_mt0 (pv 1) T.cL mMore hr (by decide) pass0)) (pw_and1 (pt_not (pt_val (pe_mt (pv 1) T.cL mComes hr (by decide) pass0 (pa_cons pe_str pa_nil))))))))
        (pss_cons (ps_expr (pe_fn fHold hr (by decide) rfl (passK hX) (pa_cons (pv 0) (pa_cons (pv 1) pa_nil)))) (pss_one (ps_aug (i := 3) scDevice.nd rfl (Or.inl rfl) pe_int ip_add))))
      (pss_cons (ps_if (pt_val (pe_mt (pv 1) T.cL mIf hr (by decide) (passK hX) (pa_cons pe_str pa_nil))) (pss_one (ps_fldaug (pv 0) (pv 3) in_add)) pss_nil)
      (pss_one (ps_dput hu (pe_fld (pv 0) rfl) (pv 2) pe_bl rfl))))))))), ?_⟩
    refine c_new (vs := [.ref p, .ref b.d4]) (bar := []) (fun Q' z => ⟨_, rfl, _, rfl, b.t, A.T, b.dx, _, _, rfl, R.tab.tab, T.cT, T.nT_devices, tf_devices, z⟩) (by rw [lit_nil]; rfl) (by decide) R.tab.nmDe R (Kp.refl _ _) D fun n H1 hnm hnew K1 R1 D => ?_
    refine c_fixed rfl lit_by (by decide) R1 K1 D fun r H2 K2 R2 D => ?_
    dsimp only
    refine s_next (d_next ?_)
    refine c_free (fun Q' z => ⟨_, rfl, _, rfl, z⟩) R2 (by omega) K2 D fun c r H3 hc K3 R3 D _ => ?_
    refine c_fixed rfl lit_holds (by decide) R3 K3 D fun r H4 K4 R4 D => ?_
    dsimp only
    refine s_next (d_next ?_)
    have z1 := sz_se (t := t) (c := c)
    refine c_hold (fun Q' z => ⟨_, rfl, _, rfl, z⟩) R4 (by omega) K4 D fun h1 r H5 K5 R5 D => ?_
    have z2 := sz_he (t := { t with serving := t.serving ++ [c] }) (c := h1)
    have D : Does A.F (p :: b.S) H (Bt.moreM e 7 1 { t with serving := t.serving ++ [c], held := t.held ++ [h1] } r >>= fun m : Nat × Bt.PT × List Word => (.ok (({ m.2.1 with drained := (if (Bt.ifM Tilt.DRAIN m.2.2).1 = true then t.drained + m.1 else t.drained), T := { t.T with devices := t.T.devices ++ [⟨(Bt.coilOf t c).place, (m.2.1.held.drop t.held.length).map (Bt.placeOf t), (Bt.ifM Tilt.DRAIN m.2.2).1, n.1⟩] } } : Bt.PT), (Bt.ifM Tilt.DRAIN m.2.2).2) : F (Bt.PT × List Word)))
        (fun x v H' => v = .non ∧ RdAt A H' b p e x.2 none x.1) Q E := D
    dsimp only
    refine s_next (a_next ?_)
    show gName 3 (.int 1) _ _ _
    refine g_next ?_
    dsimp only
    refine s_next ?_
    refine ⟨fun m σ H' => ∃ (k : Nat) (t' : Bt.PT) (r : List Word), m + k = 8 ∧ σ = [some (.ref b.t), some (.ref p), some (.str (sW n.1)), some (.int k)] ∧ Kp (p :: b.S) H H' ∧ RdAt A H' b p e r none t' ∧ t'.T = t.T ∧ t'.drained = t.drained ∧ t'.sz ≤ t.sz + 1 + k ∧
      Does A.F (p :: b.S) H (Bt.moreM e m k t' r >>= fun m : Nat × Bt.PT × List Word => (.ok (({ m.2.1 with drained := (if (Bt.ifM Tilt.DRAIN m.2.2).1 = true then t.drained + m.1 else t.drained), T := { t.T with devices := t.T.devices ++ [⟨(Bt.coilOf t c).place, (m.2.1.held.drop t.held.length).map (Bt.placeOf t), (Bt.ifM Tilt.DRAIN m.2.2).1, n.1⟩] } } : Bt.PT), (Bt.ifM Tilt.DRAIN m.2.2).2) : F (Bt.PT × List Word)))
        (fun x v H' => v = .non ∧ RdAt A H' b p e x.2 none x.1) Q E, ⟨7, 1, _, r, rfl, rfl, K5, R5, rfl, rfl, by omega, D⟩, ?_⟩
    rintro m σ H' ⟨k, t', r, hm, rfl, K', R', e1, e2, hz', D⟩
    obtain ⟨dx, a, c', g, all, hp, _⟩ := id R'.ln.ex
    have hsl := sizeLine_eq
    have fin : Does A.F (p :: b.S) H (.ok (({ t' with drained := (if (Bt.ifM Tilt.DRAIN r).1 = true then t.drained + k else t.drained), T := { t.T with devices := t.T.devices ++ [⟨(Bt.coilOf t c).place, (t'.held.drop t.held.length).map (Bt.placeOf t), (Bt.ifM Tilt.DRAIN r).1, n.1⟩] } } : Bt.PT), (Bt.ifM Tilt.DRAIN r).2) : F (Bt.PT × List Word)) (fun x v H' => v = .non ∧ RdAt A H' b p e x.2 none x.1) Q E →
        tSeq (tIfS (tB (tMeth A.L "take_if" (spIf A) [] E (tVar 1) (tCons (tC (.str "drain")) tNil))) (sFldAug K (tVar 0) (tVar 3) rAdd "drained") tNext) (sDPut (tFld K (tVar 0) "devices") (tVar 2) (tC (.bl true)))
          { nx := fun _ H' => Q .non H', rt := Q } [some (.ref b.t), some (.ref p), some (.str (sW n.1)), some (.int k)] H' := fun D => by
      obtain ⟨T', dr, he, se, re⟩ := t'
      simp only at e1 e2
      subst e1 e2
      refine c_if (z := "drain") rfl lit_drain (by decide) R' K' fun H7 K7 R7 => ⟨_, rfl, ?_⟩
      have put : ∀ (t2 : Bt.PT) (H8 : Hp), t2.T = t.T → t2.held = he → t2.serving = se → t2.reached = re → t2.drained = (if (Bt.ifM Tilt.DRAIN r).1 = true then t.drained + k else t.drained) → Kp (p :: b.S) H H8 → RdAt A H8 b p e (Bt.ifM Tilt.DRAIN r).2 none t2 →
          sDPut (tFld K (tVar 0) "devices") (tVar 2) (tC (.bl true)) { nx := fun _ H' => Q .non H', rt := Q } [some (.ref b.t), some (.ref p), some (.str (sW n.1)), some (.int k)] H8 := fun t2 H8 q1 q2 q3 q4 q5 K8 R8 => by
        obtain ⟨T2, dr2, he2, se2, re2⟩ := t2
        simp only at q1 q2 q3 q4 q5
        subst q1 q2 q3 q4 q5
        have hde := sz_de (t := t)
        refine ⟨_, rfl, b.t, A.T, b.dx, _, _, rfl, R8.tab.tab, T.cT, T.nT_devices, tf_devices, _, rfl, b.d4, _, rfl, DPut.k (k := Sum.inr (sW n.1)) R8.tab.de (by rw [tru_len]; show (Bt.deN t).length < sizeLine; omega), ?_⟩
        exact D.ok (K8.trans (Kp.upd (by simp [Tb.S]))) ⟨rfl, R8.put (by simp [Tb.S]) (R8.tab.putDe (d := ⟨(Bt.coilOf t c).place, (he2.drop t.held.length).map (Bt.placeOf t), (Bt.ifM Tilt.DRAIN r).1, n.1⟩) (Bt.name_nm hnm) hnew)⟩
      refine ite2 (fun cc => ?_) (fun cc => ?_)
      · refine ⟨_, rfl, b.t, A.T, b.dx, _, _, rfl, R7.tab.tab, T.cT, T.nT_drained, tf_drained, _, rfl, _, _, rfl, rfl, b.dx, _, R7.tab.tab, (by show 10 < 1000; decide), ?_⟩
        rw [tf_pd, show ((t.drained : Int) + (k : Int)) = ((t.drained + k : Nat) : Int) by omega]
        exact put { T := t.T, drained := t.drained + k, held := he, serving := se, reached := re } _ rfl rfl rfl rfl (by rw [if_pos cc]) (K7.trans (Kp.upd (by simp [Tb.S]))) (R7.put (by simp [Tb.S]) (R7.tab.putT (t' := { T := t.T, drained := t.drained + k, held := he, serving := se, reached := re }) rfl rfl rfl rfl rfl rfl rfl))
      · exact put { T := t.T, drained := t.drained, held := he, serving := se, reached := re } _ rfl rfl rfl rfl (by rw [if_neg cc]) K7 R7
    refine ⟨_, rfl, _, _, rfl, rfl, _, rfl, ?_⟩
    match m, hm with
    | 0, hm =>
      have e8 : decide ((k : Int) < 8) = false := decide_eq_false (by omega)
      rw [e8]
      exact iteF (iteF (fin D))
    | j + 1, hm =>
      have e8 : decide ((k : Int) < 8) = true := decide_eq_true (by omega)
      rw [e8]
      refine iteT ⟨_, rfl, p, dx, _, rfl, hp, (by kernel_rfl), p, e, r, none, rfl, R'.ln, _, rfl, ?_⟩
      cases r with
      | nil => exact iteF (iteF (fin D))
      | cons w r' =>
        refine iteT ⟨_, rfl, p, dx, _, rfl, hp, (by kernel_rfl), p, e, w :: r', none, Tilt.DRAIN, (by rw [lit_drain]; rfl), (by decide), R'.ln, _, rfl, ?_⟩
        by_cases cw : w.w = Tilt.DRAIN
        · have em : Bt.moreM e (j + 1) k t' (w :: r') = .ok (k, t', w :: r') := by simp [Bt.moreM, cw]
          rw [em] at D
          rw [Bt.ifM_t cw] at fin ⊢
          refine iteF ?_
          have D := D.eq (show _ = _ from rfl)
          exact fin (by have D2 := D; simp only [bind, Except.bind, Bt.ifM_t cw] at D2; exact D2)
        · have em : Bt.moreM e (j + 1) k t' (w :: r') = (Bt.holdM e t' (w :: r') >>= fun x => Bt.moreM e j (k + 1) x.1 x.2) := by simp [Bt.moreM, cw]
          rw [em, Bt.asc] at D
          rw [Bt.ifM_f cw]
          refine iteT ?_
          refine ⟨_, fun σ' H'' z => ⟨j, Nat.lt_succ_self _, z⟩, ?_⟩
          refine s_next (d_next ?_)
          refine c_hold (fun Q' z => ⟨_, rfl, _, rfl, z⟩) R' (by omega) K' D fun h2 r2 H8 K8 R8 D => ?_
          have z3 := sz_he (t := t') (c := h2)
          refine ⟨_, rfl, _, _, rfl, rfl, k + 1, _, r2, by omega, rfl, K8, R8, e1, e2, by omega, D⟩
end
end Br
end
section
set_option Elab.async false
set_option linter.all false
set_option maxRecDepth 100000
set_option maxHeartbeats 1000000
namespace Br
open PySem PySem.Spec PyProof.Rows L2 Xc
open Tilt (Word Fault Bytes ascii isName isSmall isDigit)
open Bt (F cod isNm sgn refu cutB)
theorem TabAt.swAt {C : Addr} {H : Hp} {b : Tb} {t : Bt.PT} (T : TabAt C H b t) {w : Bytes} (hw : w.all isNm = true) (h : w ∈ Bt.swN t) : ∃ kvs a s, H b.d1 = some (.dK kvs) ∧ valV kvs (.inr (sW w)) = some (.ref a) ∧ H a = some (.tup (swT s)) ∧ s.place = Bt.placeOf t w := by
  obtain ⟨as, hl, h1, g1⟩ := T.sw
  obtain ⟨s, hs, hn, hi, hp⟩ := Bt.sw_known h
  have hv := valV_sw hw t.T.switches as hl
  have hlt : ((Bt.swN t).findIdx fun n => n == w) < as.length := by
    rw [hl]; exact (List.getElem?_eq_some_iff.mp hi).1
  obtain ⟨a, ha⟩ : ∃ a, as[(Bt.swN t).findIdx fun n => n == w]? = some a := ⟨_, List.getElem?_eq_getElem hlt⟩
  have hv2 : valV (swK t.T.switches as) (.inr (sW w)) = some (.ref a) := by
    rw [hv]
    show (as[(Bt.swN t).findIdx fun n => n == w]?).map V.ref = _
    rw [ha]; rfl
  exact ⟨_, a, s, h1, hv2, g1 _ s a hi ha, hp.symm⟩
theorem TabAt.coAt {C : Addr} {H : Hp} {b : Tb} {t : Bt.PT} (T : TabAt C H b t) {w : Bytes} (hw : w.all isNm = true) (h : w ∈ Bt.coN t) : valV (coK t.T.coils) (.inr (sW w)) = some (.int (Bt.coilOf t w).most) := by
  obtain ⟨s, h1, _, _⟩ := Bt.find_some (f := fun s : Tilt.Coil => s.name) h
  rw [valV_co hw]
  unfold Bt.coilOf
  rw [h1]; rfl
section
variable {P : Program} {w : World} {K : PySem.W.Frag} {mg : Str → Option Value} {base : Heap} {A : Ad} {f : Addr} {fd : FuncData}
theorem scKick : FnScope ["table", "line", "first", "coil", "span", "second"] ["table", "line"] (defScope (top 59)) := ⟨rfl, rfl, rfl, by decide +kernel, rfl, by decide +kernel, by decide +kernel⟩
theorem ok_kick (T : Tx K mg A) (fKn : FKnown P w K mg base A) (fReach : Fn P w K mg base (CXF P w A.F) "reach" 3 ["table", "line", "sort", "place"] [] (spReach A)) (fFree : Fn P w K mg base (CXF P w A.F) "take_free_coil" 6 ["table", "line"] [] (spFree A)) (mRef : MRef P w K mg base A) (mFix : MFix P w K mg base A) (mNum : MNum P w K mg base A) (mIf : MIf P w K mg base A)
    (G : Fun K "read_kick" "read_kick" (top 59) f fd) : FnOk P w K mg base (CXF P w A.F) 7 f fd ["table", "line"] (spRead A Bt.kickM) := by
  refine G.okF scKick (fun vs H Q E h => ?_) (fun X0 cdv Ar outer s H vs Q E hX hr h => ?_)
  · obtain ⟨b, p, e, l, q, t, rfl, _⟩ := h
    rfl
  · obtain ⟨b, p, e, l, q, t, rfl, R, hz, D⟩ := h
    unfold Bt.kickM at D
    simp only [Bt.refu_dec] at D
    have hu := hu_of hr
    refine ⟨_, pss_cons (ps_set (i := 2) scKick.nd rfl (Or.inl rfl) (pe_fn fKn hr (by decide) rfl (passK hX) (pa_cons (pv 1) (pa_cons (pe_fld (pv 0) rfl) pa_nil))))
      (pss_cons (ps_expr (pe_fn fReach hr (by decide) rfl (passK hX) (pa_cons (pv 0) (pa_cons (pv 1) (pa_cons pe_str (pa_cons (pe_ix ix_tup (pe_dget hu (pe_fld (pv 0) rfl) (pv 2) (fun _ _ => rfl)) pe_int (fun _ _ => rfl)) pa_nil))))))
      (pss_cons (ps_expr (pe_mt (pv 1) T.cL mRef hr (by decide) (passK hX) (pa_cons (pe_cmp (pc_din hu (pv 2) (pe_fld (pv 0) rfl))) (pa_cons (pe_gv rfl T.gCLASHING) pa_nil))))
      (pss_cons (ps_set (i := 3) scKick.nd rfl (Or.inl rfl) (pe_fn fFree hr (by decide) rfl (passK hX) (pa_cons (pv 0) (pa_cons (pv 1) pa_nil))))
      (pss_cons (ps_expr (pe_mt (pv 1) T.cL mFix hr (by decide) (passK hX) (pa_cons pe_str pa_nil)))
      (pss_cons (ps_set (i := 4) scKick.nd rfl (Or.inl rfl) (pe_mt (pv 1) T.cL mNum hr (by decide) (passK hX) (pa_cons pe_int (pa_cons (pe_gv rfl T.gMOST_SPAN) pa_nil))))
      (pss_cons (ps_expr (pe_mt (pv 1) T.cL mRef hr (by decide) (passK hX) (pa_cons (pe_cmpR op_gt (pv 4) (pe_dget hu (pe_fld (pv 0) rfl) (pv 3) (fun _ _ => rfl)) (nomark _)) (pa_cons (pe_gv rfl T.gCLASHING) pa_nil))))
      (pss_cons (ps_if (pt_val (pe_mt (pv 1) T.cL mIf hr (by decide) (passK hX) (pa_cons pe_str pa_nil)))
        (pss_cons (ps_set (i := 5) scKick.nd rfl (Or.inl rfl) (pe_fn fKn hr (by decide) rfl (passK hX) (pa_cons (pv 1) (pa_cons (pe_fld (pv 0) rfl) pa_nil))))
        (pss_one (ps_expr (pe_mt (pv 1) T.cL mRef hr (by decide) (passK hX) (pa_cons (pe_cmpR op_eq (pv 5) (pv 2) (nomark _)) (pa_cons (pe_gv rfl T.gCLASHING) pa_nil)))))) pss_nil)
      (pss_one (ps_fldaug (pv 0) pe_int in_add))))))))), ?_⟩
    refine c_known (fun Q' z => ⟨_, rfl, _, rfl, b.t, A.T, b.dx, _, _, rfl, R.tab.tab, T.cT, T.nT_switches, tf_switches, z⟩) R.tab.nmSw R (Kp.refl _ _) D fun x H1 hnm hin K1 R1 D => ?_
    have hw := Bt.name_nm hnm
    refine g_next ?_
    dsimp only
    refine s_next (d_next ?_)
    obtain ⟨kvs, a, sw, hd1, hv, ha, hpl⟩ := R1.tab.swAt hw hin
    refine c_reach (s := Bt.kKi) (n := Bt.placeOf t x.1.w) (fun Q' z => ⟨_, rfl, _, rfl, _, rfl, b.t, A.T, b.dx, _, _, rfl, R1.tab.tab, T.cT, T.nT_switches, tf_switches, _, rfl, b.d1, _, rfl, (by have := DGet.k (k := Sum.inr (sW x.1.w)) hd1; rw [hv] at this; exact this), a, _, 0, _, rfl, rfl, SqT.of ha, atI_nat (j := 0) rfl, by rw [lit_ki, hpl]; exact z⟩) (by decide) R1 (by omega) K1 D fun H2 K2 R2 D => ?_
    refine c_ref (b' := decide (x.1.w ∈ t.held)) (kd := 7) rfl (fun Q' z => ⟨_, rfl, _, rfl, b.t, A.T, b.dx, _, _, rfl, R2.tab.tab, T.cT, T.nT_held, tf_held, b.d5, _, rfl, DGet.k (k := Sum.inr (sW x.1.w)) R2.tab.he, by rw [valV_tru_some hw]; exact z⟩) R2 K2 D fun hb D => ?_
    dsimp only
    refine s_next (a_next ?_)
    have z1 := sz_re (t := t) (s := Bt.kKi) (n := Bt.placeOf t x.1.w)
    refine c_free (fun Q' z => ⟨_, rfl, _, rfl, z⟩) R2 (by omega) K2 D fun c r H3 hc K3 R3 D hcn => ?_
    refine g_next ?_
    refine c_fixed rfl lit_for (by decide) R3 K3 D fun r H4 K4 R4 D => ?_
    refine c_num (lo := 1) (hi := 255) rfl (fun Q' z => z) (by decide) R4 K4 D fun sp H5 hsp K5 R5 D => ?_
    refine g_next ?_
    have hco := R5.tab.coAt hcn hc
    refine c_ref (b' := decide ((Bt.coilOf t c).most < sp.1.1)) (kd := 7) rfl (fun Q' z => ⟨_, rfl, _, rfl, b.t, A.T, b.dx, _, _, rfl, R5.tab.tab, T.cT, T.nT_coils, tf_coils, _, rfl, b.d3, _, rfl, (by have := DGet.k (k := Sum.inr (sW c)) R5.tab.co; rw [hco] at this; exact this), _, _, rfl, rfl, ?_⟩) R5 K5 D fun hb2 D => ?_
    · have e1 : decide ((((Bt.coilOf t c).most : Nat) : Int) < ((sp.1.1 : Nat) : Int)) = decide ((Bt.coilOf t c).most < sp.1.1) := by rw [decide_eq_decide]; omega
      rw [← e1] at z; exact z
    have fin : ∀ (u : Option Nat) (r' : List Word) (v5 : Option V) (H7 : Hp) (q7 : Option Nat), Kp (p :: b.S) H H7 → RdAt A H7 b p e r' q7 { t with reached := (Bt.kKi, Bt.placeOf t x.1.w) :: t.reached, serving := t.serving ++ [c] } →
        Does A.F (p :: b.S) H (.ok (({ ({ t with reached := (Bt.kKi, Bt.placeOf t x.1.w) :: t.reached, serving := t.serving ++ [c] } : Bt.PT) with T := { t.T with kicks := t.T.kicks ++ [⟨Bt.placeOf t x.1.w, (Bt.coilOf t c).place, sp.1.1, u⟩] } } : Bt.PT), r')) (fun x v H' => v = .non ∧ RdAt A H' b p e x.2 none x.1) Q E →
        sFldAug K (tVar 0) (tC (.int 1)) rAdd "kicks" { nx := fun _ H' => Q .non H', rt := Q } [some (.ref b.t), some (.ref p), some (.str (sW x.1.w)), some (.str (sW c)), some (.int sp.1.1), v5] H7 := fun u r' v5 H7 q7 K7 R7 D => by
      refine ⟨_, rfl, b.t, A.T, b.dx, _, _, rfl, R7.tab.tab, T.cT, T.nT_kicks, tf_kicks, _, _, rfl, rfl, b.dx, _, R7.tab.tab, (by show 10 < 1000; decide), ?_⟩
      rw [tf_pk, show (((({ t with reached := (Bt.kKi, Bt.placeOf t x.1.w) :: t.reached, serving := t.serving ++ [c] } : Bt.PT).T.kicks.length : Nat) : Int) + 1) = (((t.T.kicks ++ [(⟨Bt.placeOf t x.1.w, (Bt.coilOf t c).place, sp.1.1, u⟩ : Tilt.Kick)]).length : Nat) : Int) by rw [List.length_append]; simp]
      exact D.ok (K7.trans (Kp.upd (by simp [Tb.S]))) ⟨rfl, (R7.put (by simp [Tb.S]) (R7.tab.putT (t' := { ({ t with reached := (Bt.kKi, Bt.placeOf t x.1.w) :: t.reached, serving := t.serving ++ [c] } : Bt.PT) with T := { t.T with kicks := t.T.kicks ++ [⟨Bt.placeOf t x.1.w, (Bt.coilOf t c).place, sp.1.1, u⟩] } }) rfl rfl rfl rfl rfl rfl rfl)).weak⟩
    refine c_if (z := "till") rfl lit_till (by decide) R5 K5 fun H6 K6 R6 => ⟨_, rfl, ?_⟩
    unfold Bt.tillM at D
    refine ite2 (fun cc => ?_) (fun cc => ?_)
    · rw [if_pos cc, Bt.asc] at D
      refine s_next (a_next ?_)
      refine c_known (fun Q' z => ⟨_, rfl, _, rfl, b.t, A.T, b.dx, _, _, rfl, R6.tab.tab, T.cT, T.nT_switches, tf_switches, z⟩) R6.tab.nmSw R6 K6 D fun y H7 hnm2 hin2 K7 R7 D => ?_
      refine g_next ?_
      have D : Does A.F (p :: b.S) H (refu (decide (y.1.w = x.1.w)) 7 y.1.at_ >>= fun _ => (.ok (({ ({ t with reached := (Bt.kKi, Bt.placeOf t x.1.w) :: t.reached, serving := t.serving ++ [c] } : Bt.PT) with T := { t.T with kicks := t.T.kicks ++ [⟨Bt.placeOf t x.1.w, (Bt.coilOf t c).place, sp.1.1, some (Bt.placeOf t y.1.w)⟩] } } : Bt.PT), y.2) : F (Bt.PT × List Word))) (fun x v H' => v = .non ∧ RdAt A H' b p e x.2 none x.1) Q E := by
        refine D.eq ?_
        by_cases c9 : y.1.w = x.1.w
        · rw [if_pos c9, decide_eq_true c9]; rfl
        · rw [if_neg c9, decide_eq_false c9]; rfl
      refine c_ref (b' := decide (y.1.w = x.1.w)) (kd := 7) rfl (fun Q' z => ⟨_, rfl, _, rfl, rfl, ?_⟩) R7 K7 D fun hb3 D => ?_
      · have e1 : decide (V.str (sW y.1.w) = V.str (sW x.1.w)) = decide (y.1.w = x.1.w) := sW_dec hw
        rw [← e1] at z; exact z
      exact fin _ _ _ H7 _ K7 R7 D
    · rw [if_neg cc] at D
      exact fin none _ _ H6 _ K6 R6 D
end
end Br
end
section
set_option Elab.async false
set_option linter.all false
set_option maxRecDepth 100000
set_option maxHeartbeats 1000000
namespace Br
open PySem PySem.Spec PyProof.Rows L2 Xc
open Tilt (Word Fault Bytes ascii isName isSmall isDigit)
open Bt (F cod isNm sgn refu cutB)
def spTbInit (A : Ad) : Sp := fun vs H Q _ => ∃ (x dx : Addr), vs = [.ref x] ∧ H x = some (.ins A.T dx []) ∧ ∀ (b : Tb) H', b.t = x → Kp [x] H H' → TabAt A.T H' b Bt.PT.new → (∀ y ∈ b.S, y = x ∨ H y = none) → Q .non H'
def spTable (A : Ad) : Sp := fun vs H Q E => ∃ (a : Addr) (bs : Bytes), vs = [.ref a] ∧ H a = some (.lst (bs.map bV)) ∧ bs.length ≤ 16384 ∧ Does A.F [] H (Bt.readM bs) (fun q v H' => ∃ b : Tb, v = .ref b.t ∧ TabAt A.T H' b q) Q E
abbrev sTbInit : Stmt := inClass (top 47) 0
theorem dstep {Hc : Hp} {x d : Addr} {o u : HO} (hx : Hc x = some o) (hd : Hc d = none) : upd (upd Hc d (.dK [])) x u x = some u ∧ upd (upd Hc d (.dK [])) x u d = some (.dK []) ∧ (∀ y v, Hc y = some v → y ≠ x → upd (upd Hc d (.dK [])) x u y = some v) ∧ d ≠ x := by
  have hne : d ≠ x := fun z => by rw [z, hx] at hd; cases hd
  refine ⟨upd_same, by rw [upd_ne hne]; exact upd_same, fun y v hy hyx => ?_, hne⟩
  rw [upd_ne hyx, upd_ne (ne_of_none hy hd)]; exact hy
section
variable {P : Program} {w : World} {K : PySem.W.Frag} {mg : Str → Option Value} {base : Heap} {A : Ad} {f : Addr} {fd : FuncData}
theorem scTbInit : FnScope ["self"] ["self"] (defScope sTbInit) := ⟨rfl, rfl, rfl, by decide +kernel, rfl, by decide +kernel, by decide +kernel⟩
theorem ok_tbinit (T : Tx K mg A) (G : Fun K "__init__" "Table.__init__" sTbInit f fd) : FnOk P w K mg base CX0 1 f fd ["self"] (spTbInit A) := by
  refine G.ok scTbInit (fun vs H Q E h => ?_) (fun cdv Ar outer s H vs Q E hr h => ?_)
  · obtain ⟨x, dx, rfl, _⟩ := h
    rfl
  · obtain ⟨x, dx, rfl, hx, k⟩ := h
    refine ⟨_, pss_cons (ps_fld (pv 0) pe_int rfl) (pss_cons (ps_fld (pv 0) pe_int rfl) (pss_cons (ps_fld (pv 0) pe_int rfl)
      (pss_cons (ps_fld (pv 0) pe_dnewK rfl) (pss_cons (ps_fld (pv 0) pe_dnewK rfl) (pss_cons (ps_fld (pv 0) pe_dnewK rfl) (pss_cons (ps_fld (pv 0) pe_dnewK rfl) (pss_cons (ps_fld (pv 0) pe_dnewK rfl) (pss_cons (ps_fld (pv 0) pe_dnewK rfl) (pss_one (ps_fld (pv 0) pe_dnewK rfl)))))))))), ?_⟩
    refine ⟨_, rfl, x, A.T, dx, _, rfl, hx, T.cT, T.nT_balls, (by show 0 < 1000; decide), ?_⟩
    refine ⟨_, rfl, x, A.T, dx, _, rfl, upd_same, T.cT, T.nT_drained, lt_put (Nat.le_refl 0), ?_⟩
    refine ⟨_, rfl, x, A.T, dx, _, rfl, upd_same, T.cT, T.nT_kicks, lt_put (len_put (Nat.le_refl 0)), ?_⟩
    rw [upd_upd, upd_upd]
    have k0 : Kp [x] H (upd H x (.ins A.T dx (putF "kicks" (.int 0) (putF "drained" (.int 0) (putF "balls" (.int 0) []))))) := Kp.upd (by simp)
    have h0 : upd H x (.ins A.T dx (putF "kicks" (.int 0) (putF "drained" (.int 0) (putF "balls" (.int 0) [])))) x = _ := upd_same
    generalize upd H x (.ins A.T dx (putF "kicks" (.int 0) (putF "drained" (.int 0) (putF "balls" (.int 0) [])))) = Hc at k0 h0 ⊢
    have fr : ∀ y, Hc y = none → H y = none := fun y hy => by
      cases q : H y with
      | none => rfl
      | some o =>
        by_cases z : y = x
        · subst z; rw [h0] at hy; cases hy
        · rw [k0 y o q (by simp [z])] at hy; cases hy
    intro d1 f1
    obtain ⟨a1, b1, c1, n1⟩ := dstep (u := .ins A.T dx (putF "switches" (.ref d1) (putF "kicks" (.int 0) (putF "drained" (.int 0) (putF "balls" (.int 0) []))))) h0 f1
    have ex1 : upd Hc d1 (.dK []) x = some (.ins A.T dx (putF "kicks" (.int 0) (putF "drained" (.int 0) (putF "balls" (.int 0) [])))) := by rw [upd_ne (Ne.symm n1)]; exact h0
    refine ⟨_, rfl, x, A.T, dx, _, rfl, ex1, T.cT, T.nT_switches, lt_put (len_put (len_put (Nat.le_refl 0))), ?_⟩
    intro d2 f2
    have a2' := dstep (u := .ins A.T dx (putF "lamps" (.ref d2) (putF "switches" (.ref d1) (putF "kicks" (.int 0) (putF "drained" (.int 0) (putF "balls" (.int 0) [])))))) a1 f2
    obtain ⟨a2, b2, c2, n2⟩ := a2'
    have m21 : d1 ≠ d2 := ne_of_none b1 f2
    refine ⟨_, rfl, x, A.T, dx, _, rfl, (upd_ne (Ne.symm n2)).trans a1, T.cT, T.nT_lamps, lt_put (len_put (len_put (len_put (Nat.le_refl 0)))), ?_⟩
    intro d3 f3
    obtain ⟨a3, b3, c3, n3⟩ := dstep (u := .ins A.T dx (putF "coils" (.ref d3) (putF "lamps" (.ref d2) (putF "switches" (.ref d1) (putF "kicks" (.int 0) (putF "drained" (.int 0) (putF "balls" (.int 0) []))))))) a2 f3
    have m31 : d1 ≠ d3 := ne_of_none (c2 _ _ b1 n1) f3
    have m32 : d2 ≠ d3 := ne_of_none b2 f3
    refine ⟨_, rfl, x, A.T, dx, _, rfl, (upd_ne (Ne.symm n3)).trans a2, T.cT, T.nT_coils, lt_put (len_put (len_put (len_put (len_put (Nat.le_refl 0))))), ?_⟩
    intro d4 f4
    obtain ⟨a4, b4, c4, n4⟩ := dstep (u := .ins A.T dx (putF "devices" (.ref d4) (putF "coils" (.ref d3) (putF "lamps" (.ref d2) (putF "switches" (.ref d1) (putF "kicks" (.int 0) (putF "drained" (.int 0) (putF "balls" (.int 0) [])))))))) a3 f4
    have m41 : d1 ≠ d4 := ne_of_none (c3 _ _ (c2 _ _ b1 n1) n1) f4
    have m42 : d2 ≠ d4 := ne_of_none (c3 _ _ b2 n2) f4
    have m43 : d3 ≠ d4 := ne_of_none b3 f4
    refine ⟨_, rfl, x, A.T, dx, _, rfl, (upd_ne (Ne.symm n4)).trans a3, T.cT, T.nT_devices, lt_put (len_put (len_put (len_put (len_put (len_put (Nat.le_refl 0)))))), ?_⟩
    intro d5 f5
    obtain ⟨a5, b5, c5, n5⟩ := dstep (u := .ins A.T dx (putF "held" (.ref d5) (putF "devices" (.ref d4) (putF "coils" (.ref d3) (putF "lamps" (.ref d2) (putF "switches" (.ref d1) (putF "kicks" (.int 0) (putF "drained" (.int 0) (putF "balls" (.int 0) []))))))))) a4 f5
    have g1 := c4 _ _ (c3 _ _ (c2 _ _ b1 n1) n1) n1
    have g2 := c4 _ _ (c3 _ _ b2 n2) n2
    have g3 := c4 _ _ b3 n3
    have m51 : d1 ≠ d5 := ne_of_none g1 f5
    have m52 : d2 ≠ d5 := ne_of_none g2 f5
    have m53 : d3 ≠ d5 := ne_of_none g3 f5
    have m54 : d4 ≠ d5 := ne_of_none b4 f5
    refine ⟨_, rfl, x, A.T, dx, _, rfl, (upd_ne (Ne.symm n5)).trans a4, T.cT, T.nT_held, lt_put (len_put (len_put (len_put (len_put (len_put (len_put (Nat.le_refl 0))))))), ?_⟩
    intro d6 f6
    obtain ⟨a6, b6, c6, n6⟩ := dstep (u := .ins A.T dx (putF "serving" (.ref d6) (putF "held" (.ref d5) (putF "devices" (.ref d4) (putF "coils" (.ref d3) (putF "lamps" (.ref d2) (putF "switches" (.ref d1) (putF "kicks" (.int 0) (putF "drained" (.int 0) (putF "balls" (.int 0) [])))))))))) a5 f6
    have g1 := c5 _ _ g1 n1
    have g2 := c5 _ _ g2 n2
    have g3 := c5 _ _ g3 n3
    have g4 := c5 _ _ b4 n4
    have m61 : d1 ≠ d6 := ne_of_none g1 f6
    have m62 : d2 ≠ d6 := ne_of_none g2 f6
    have m63 : d3 ≠ d6 := ne_of_none g3 f6
    have m64 : d4 ≠ d6 := ne_of_none g4 f6
    have m65 : d5 ≠ d6 := ne_of_none b5 f6
    refine ⟨_, rfl, x, A.T, dx, _, rfl, (upd_ne (Ne.symm n6)).trans a5, T.cT, T.nT_serving, lt_put (len_put (len_put (len_put (len_put (len_put (len_put (len_put (Nat.le_refl 0)))))))), ?_⟩
    intro d7 f7
    obtain ⟨a7, b7, c7, n7⟩ := dstep (u := .ins A.T dx (putF "reached" (.ref d7) (putF "serving" (.ref d6) (putF "held" (.ref d5) (putF "devices" (.ref d4) (putF "coils" (.ref d3) (putF "lamps" (.ref d2) (putF "switches" (.ref d1) (putF "kicks" (.int 0) (putF "drained" (.int 0) (putF "balls" (.int 0) []))))))))))) a6 f7
    have g1 := c6 _ _ g1 n1
    have g2 := c6 _ _ g2 n2
    have g3 := c6 _ _ g3 n3
    have g4 := c6 _ _ g4 n4
    have g5 := c6 _ _ b5 n5
    have m71 : d1 ≠ d7 := ne_of_none g1 f7
    have m72 : d2 ≠ d7 := ne_of_none g2 f7
    have m73 : d3 ≠ d7 := ne_of_none g3 f7
    have m74 : d4 ≠ d7 := ne_of_none g4 f7
    have m75 : d5 ≠ d7 := ne_of_none g5 f7
    have m76 : d6 ≠ d7 := ne_of_none b6 f7
    refine ⟨_, rfl, x, A.T, dx, _, rfl, (upd_ne (Ne.symm n7)).trans a6, T.cT, T.nT_reached, lt_put (len_put (len_put (len_put (len_put (len_put (len_put (len_put (len_put (Nat.le_refl 0))))))))), ?_⟩
    have up : ∀ y v, Hc y = some v → y ≠ x → upd (upd _ d7 (.dK [])) x _ y = some v := fun y v hy hyx => c7 y v (c6 y v (c5 y v (c4 y v (c3 y v (c2 y v (c1 y v hy hyx) hyx) hyx) hyx) hyx) hyx) hyx
    have fr1 : ∀ {H2 : Hp} {y : Addr}, (∀ z v, Hc z = some v → z ≠ x → H2 z = some v) → H2 x = some (.ins A.T dx (putF "kicks" (.int 0) (putF "drained" (.int 0) (putF "balls" (.int 0) [])))) ∨ (∃ u, H2 x = some u) → H2 y = none → H y = none := fun {H2 y} hk hx2 hy => fr y (by
      cases q : Hc y with
      | none => rfl
      | some o =>
        by_cases z : y = x
        · subst z
          rcases hx2 with h | ⟨u, h⟩ <;> (rw [h] at hy; cases hy)
        · rw [hk y o q z] at hy; cases hy)
    refine k ⟨x, dx, d1, d2, d3, d4, d5, d6, d7⟩ _ rfl ?_ ⟨?_, ⟨[], rfl, c7 _ _ g1 n1, fun i s a e1 => by simp [Bt.PT.new, Tilt.noTable] at e1⟩, c7 _ _ g2 n2, c7 _ _ g3 n3, c7 _ _ g4 n4, c7 _ _ g5 n5, c7 _ _ b6 n6, ⟨[], b7, Nat.le_refl _, fun s _ => rfl⟩, ?_⟩ ?_
    · exact fun y v hy hyx => up y v (k0 y v hy hyx) (by simpa using hyx)
    · exact a7.trans (congrArg (fun q => some (HO.ins A.T dx q)) (by kernel_rfl))
    · simp only [Tb.S, List.nodup_cons, List.mem_cons, List.not_mem_nil, or_false, not_or, List.nodup_nil, and_true, not_false_eq_true]
      exact ⟨⟨Ne.symm n1, Ne.symm n2, Ne.symm n3, Ne.symm n4, Ne.symm n5, Ne.symm n6, Ne.symm n7⟩, ⟨m21, m31, m41, m51, m61, m71⟩, ⟨m32, m42, m52, m62, m72⟩, ⟨m43, m53, m63, m73⟩, ⟨m54, m64, m74⟩, ⟨m65, m75⟩, m76⟩
    · intro y hy
      simp only [Tb.S, List.mem_cons, List.not_mem_nil, or_false] at hy
      rcases hy with rfl | rfl | rfl | rfl | rfl | rfl | rfl | rfl
      · exact .inl rfl
      · exact .inr (fr _ f1)
      · exact .inr (fr1 c1 (.inr ⟨_, a1⟩) f2)
      · exact .inr (fr1 (fun z v hz hzx => c2 z v (c1 z v hz hzx) hzx) (.inr ⟨_, a2⟩) f3)
      · exact .inr (fr1 (fun z v hz hzx => c3 z v (c2 z v (c1 z v hz hzx) hzx) hzx) (.inr ⟨_, a3⟩) f4)
      · exact .inr (fr1 (fun z v hz hzx => c4 z v (c3 z v (c2 z v (c1 z v hz hzx) hzx) hzx) hzx) (.inr ⟨_, a4⟩) f5)
      · exact .inr (fr1 (fun z v hz hzx => c5 z v (c4 z v (c3 z v (c2 z v (c1 z v hz hzx) hzx) hzx) hzx) hzx) (.inr ⟨_, a5⟩) f6)
      · exact .inr (fr1 (fun z v hz hzx => c6 z v (c5 z v (c4 z v (c3 z v (c2 z v (c1 z v hz hzx) hzx) hzx) hzx) hzx) hzx) (.inr ⟨_, a6⟩) f7)
end
end Br
end
section
set_option Elab.async false
set_option linter.all false
set_option maxRecDepth 100000
set_option maxHeartbeats 1000000
namespace Br
open PySem PySem.Spec PyProof.Rows L2 Xc
open Tilt (Word Fault Bytes ascii isName isSmall isDigit)
open Bt (F cod isNm sgn refu cutB)
section
variable {P : Program} {w : World} {K : PySem.W.Frag} {mg : Str → Option Value} {base : Heap} {A : Ad} {f : Addr} {fd : FuncData}
theorem scTable : FnScope ["text", "table", "line", "sort"] ["text"] (defScope (top 62)) := ⟨rfl, rfl, rfl, by decide +kernel, rfl, by decide +kernel, by decide +kernel⟩
theorem ok_table (T : Tx K mg A) (ckT : Ck P w K mg base CX0 "Table" A.T 1 ["self"] (spTbInit A)) (fLine : Fn P w K mg base (CXF P w A.F) "line_at" 4 ["text", "start"] [] (spLineAt A)) (fHead : FRead P w K mg base A "read_head" 5 Bt.headM)
    (mFin : Mt P w K mg base (CXF P w A.F) A.L "finish" 2 ["self"] (spFinish A)) (fSort : Fn P w K mg base (CXF P w A.F) "take_sort" 5 ["table", "line", "earlier"] [] (spSort A)) (fRest : Fn P w K mg base (CXF P w A.F) "read_rest" 8 ["table", "line", "sort"] [] (spRest A))
    (G : Fun K "read_table" "read_table" (top 62) f fd) : FnOk P w K mg base (CXF P w A.F) 9 f fd ["text"] (spTable A) := by
  refine G.okF scTable (fun vs H Q E h => ?_) (fun X0 cdv Ar outer s H vs Q E hX hr h => ?_)
  · obtain ⟨a, bs, rfl, _⟩ := h
    rfl
  · obtain ⟨a, bs, rfl, ha, hlen, D⟩ := h
    unfold Bt.readM at D
    have own := ownK (C := A.F) (E := E) hX top_cxOf
    refine ⟨_, pss_cons (ps_set (i := 1) scTable.nd rfl (Or.inl rfl) (pe_ck0 ckT hr (by decide) rfl pass0))
      (pss_cons (ps_set (i := 2) scTable.nd rfl (Or.inl rfl) (pe_fn fLine hr (by decide) rfl (passK hX) (pa_cons (pv 0) (pa_cons pe_int pa_nil))))
      (pss_cons (ps_expr (pe_fn fHead hr (by decide) rfl (passK hX) (pa_cons (pv 1) (pa_cons (pv 2) pa_nil))))
      (pss_cons (ps_expr (pe_mt0 (pv 2) T.cL mFin hr (by decide) (passK hX)))
      (pss_cons (ps_set (i := 3) scTable.nd rfl (Or.inl rfl) (pe_ix ix_tup (pe_gv rfl T.gSORTS) pe_int (fun _ _ => rfl)))
      (pss_cons (ps_while own (pt_cmpR op_lt (pe_op op_add (pe_fld (pv 2) rfl) pe_int) (pe_callB call_len_seq rfl T.b_len PySem.boot_len (pa_cons (pv 0) pa_nil)) (nomark _))
        (pss_cons (ps_set (i := 2) scTable.nd rfl (Or.inl rfl) (pe_fn fLine hr (by decide) rfl (passK hX) (pa_cons (pv 0) (pa_cons (pe_op op_add (pe_fld (pv 2) rfl) pe_int) pa_nil))))
        (pss_cons (ps_set (i := 3) scTable.nd rfl (Or.inl rfl) (pe_fn fSort hr (by decide) rfl (passK hX) (pa_cons (pv 1) (pa_cons (pv 2) (pa_cons (pv 3) pa_nil)))))
        (pss_cons (ps_expr (pe_fn fRest hr (by decide) rfl (passK hX) (pa_cons (pv 1) (pa_cons (pv 2) (pa_cons (pv 3) pa_nil)))))
        (pss_one (ps_expr (pe_mt0 (pv 2) T.cL mFin hr (by decide) (passK hX))))))))
      (pss_cons (ps_if (pt_cmpR op_lt (pe_fld (pv 1) rfl) (pe_fld (pv 1) rfl) (nomark _)) (pss_one (ps_raise hX T.flt hr rfl rfl (pa_cons (pe_gv rfl T.gFEW_DRAINS) (pa_cons (pe_callB call_len_seq rfl T.b_len PySem.boot_len (pa_cons (pv 0) pa_nil)) pa_nil)))) pss_nil)
      (pss_one (ps_ret (pv 1))))))))), ?_⟩
    intro x dx nx ndx hne
    refine ⟨x, dx, rfl, upd_same, fun b H1 hbt k1 T1 hfr1 => ⟨rfl, ?_⟩⟩
    subst hbt
    have s1 : Same H H1 := fun y o e => k1 y o (by rw [upd_ne (ne_of_none e nx), upd_ne (ne_of_none e ndx)]; exact e) (by simp; exact ne_of_none e nx)
    have bfree : ∀ y ∈ b.S, H y = none := fun y hy => by
      rcases hfr1 y hy with z | z
      · rw [z]; exact nx
      · by_cases q1 : y = b.t
        · rw [q1]; exact nx
        · rw [upd_ne q1] at z
          by_cases q2 : y = dx
          · rw [q2]; exact ndx
          · rw [upd_ne q2] at z; exact z
    have K1 : Kp [] H H1 := Kp.same.mpr s1
    refine ⟨_, rfl, a, 0, bs, rfl, s1 _ _ ha, Nat.zero_le _, hlen, D.bind (fun _ k => K1.trans k) fun x2 v H2 hx2 K2 k2 P2 D => ?_⟩
    obtain ⟨q0, rfl, hq0, L2'⟩ := P2
    have R2 : RdAt A H2 b q0 x2.2 x2.1 none Bt.PT.new := ⟨T1.keep k2 (by simp), L2'⟩
    have free2 : ∀ y ∈ q0 :: b.S, H y = none ∨ y ∈ ([] : List Addr) := fun y hy => by
      rcases List.mem_cons.mp hy with z | z
      · rw [z]; exact .inl (s1.free hq0)
      · exact .inl (bfree y z)
    refine ⟨_, rfl, _, rfl, b, q0, x2.2, x2.1, none, Bt.PT.new, rfl, R2, (by show (0 : Nat) ≤ 500000; decide), D.bind (fun _ k => K2.free k free2) fun z v H3 hz K3 k3 P3 D => ?_⟩
    obtain ⟨rfl, R3⟩ := P3
    obtain ⟨dx3, a3, c3, g3, all3, hp3, _⟩ := id R3.ln.ex
    refine ⟨_, rfl, q0, dx3, _, rfl, hp3, (by kernel_rfl), q0, x2.2, z.2, none, rfl, R3.ln, D.bind (fun _ k => K3.trans k) fun u v H4 hu4 K4 k4 P4 D => ?_⟩
    obtain ⟨rfl, rfl⟩ := P4
    refine ⟨A.so, SO, 0, _, rfl, rfl, T.sorts H4, atI_nat (j := 0) rfl, ?_⟩
    obtain ⟨Rp, Or, hsz⟩ := Bt.head_rep hz 0
    obtain ⟨hle, hlt⟩ := Bt.lineAt_end hx2
    refine ⟨fun m σ H' => ∃ (p : Addr) (e y : Nat) (t : Bt.PT) (l : List Word) (k : Nat), m = bs.length - e ∧ σ = [some (.ref a), some (.ref b.t), some (.ref p), some (.str (sW (Bt.sortN y)))] ∧ Kp [] H H' ∧ RdAt A H' b p e l none t ∧ Bt.Rep t ∧ Bt.Ord y t ∧ t.sz ≤ 10 * e ∧ y ≤ 5 ∧ e < bs.length ∧ bs.length ≤ k + (e + 1) ∧
      Does A.F [] H (Bt.restOf bs k (e + 1) y t >>= fun q => if q.drained < q.T.balls then .error ⟨8, bs.length⟩ else .ok q) (fun q v H' => ∃ b : Tb, v = .ref b.t ∧ TabAt A.T H' b q) Q E,
      ⟨_, q0, x2.2, 0, z.1, z.2, bs.length, rfl, (by show _ = [some (V.ref a), some (V.ref b.t), some (V.ref q0), some (V.str (sW (Bt.sortN 0)))]; rw [show sW (Bt.sortN 0) = "switch" from lit_sw.symm]; rfl), K4, R3, Rp, Or, by omega, by decide, hlt, by omega, D⟩, ?_⟩
    rintro m σ H' ⟨p, e, y, t, l, k, rfl, rfl, K', R', Rp, Or, hsz, hy, he, hk, D⟩
    obtain ⟨dx5, a5, c5, g5, all5, hp5, _⟩ := id R'.ln.ex
    have ha' := (Kp.same.mp K') _ _ ha
    refine ⟨_, rfl, p, A.L, dx5, _, _, rfl, hp5, T.cL, T.nL_end, lf_end, _, _, rfl, rfl, _, rfl, a, _, rfl, .inl (SqL.of ha'), _, _, rfl, rfl, _, rfl, ?_⟩
    have e1 : decide ((e : Int) + 1 < (((bs.map bV).length : Nat) : Int)) = decide (e + 1 < bs.length) := by rw [decide_eq_decide, List.length_map]; omega
    show if decide ((e : Int) + 1 < (((bs.map bV).length : Nat) : Int)) = true then _ else _
    rw [e1]
    refine ite2 (fun cc => ?_) (fun cc => ?_)
    · have cc' := of_decide_eq_true cc
      match k, hk with
      | 0, hk => omega
      | k + 1, hk =>
        have er : Bt.restOf bs (k + 1) (e + 1) y t = (Bt.lineAt bs (e + 1) >>= fun x => Bt.lineM x.2 t y x.1 >>= fun z => Bt.restOf bs k (x.2 + 1) z.1 z.2) := by
          show (if e + 1 < bs.length then _ else _) = _
          rw [if_pos cc']
        rw [er] at D
        simp only [Bt.asc] at D
        refine ⟨_, fun σ' H'' z => z, ?_⟩
        refine ⟨_, rfl, _, rfl, p, A.L, dx5, _, _, rfl, hp5, T.cL, T.nL_end, lf_end, _, _, rfl, rfl, a, e + 1, bs, rfl, ha', by omega, hlen, D.bind (fun _ k => K'.trans k) fun x6 v H6 hx6 K6 k6 P6 D => ?_⟩
        obtain ⟨q6, rfl, hq6, L6⟩ := P6
        have R6 : RdAt A H6 b q6 x6.2 x6.1 none t := ⟨R'.tab.keep k6 (by simp), L6⟩
        obtain ⟨hle6, hlt6⟩ := Bt.lineAt_end hx6
        have free6 : ∀ y ∈ q6 :: b.S, H y = none ∨ y ∈ ([] : List Addr) := fun y hy => by
          rcases List.mem_cons.mp hy with z | z
          · rw [z]; exact .inl ((Kp.same.mp K').free hq6)
          · exact .inl (bfree y z)
        have eL : Bt.lineM x6.2 t y x6.1 = (Bt.sortM x6.2 t y x6.1 >>= fun s => Bt.restM x6.2 t s.1 s.2 >>= fun x => Tilt.closed x.2 >>= fun _ => .ok (s.1, x.1)) := rfl
        rw [eL] at D
        simp only [Bt.asc] at D
        refine ⟨_, rfl, _, rfl, _, rfl, b, q6, x6.2, x6.1, none, t, y, rfl, hy, R6, D.bind (fun _ k => K6.free k free6) fun s7 v H7 hs7 K7 k7 P7 D => ?_⟩
        obtain ⟨rfl, R7⟩ := P7
        obtain ⟨w7, r7, _, es7, hn7, hy7, _, _⟩ := Bt.sortM_ok hs7
        have h75 := Bt.sortOf_le w7.w
        have hs1 : 1 ≤ s7.1 := by rw [es7]; show 1 ≤ Bt.sortOf w7.w; omega
        have hs5 : s7.1 ≤ 5 := by rw [es7]; exact h75
        refine ⟨_, rfl, _, rfl, _, rfl, b, q6, x6.2, s7.2, none, t, s7.1, rfl, hs1, hs5, R7, by omega, D.bind (fun _ k => K7.free k free6) fun x8 v H8 hx8 K8 k8 P8 D => ?_⟩
        obtain ⟨rfl, R8⟩ := P8
        obtain ⟨dx8, a8, c8, g8, all8, hp8, _⟩ := id R8.ln.ex
        refine ⟨_, rfl, q6, dx8, _, rfl, hp8, (by kernel_rfl), q6, x6.2, x8.2, none, rfl, R8.ln, D.bind (fun _ k => K8.trans k) fun u v H9 hu9 K9 k9 P9 D => ?_⟩
        obtain ⟨rfl, rfl⟩ := P9
        have hL : Bt.lineM x6.2 t y x6.1 = .ok (s7.1, x8.1) := by
          rw [eL, hs7]
          show (Bt.restM x6.2 t s7.1 s7.2 >>= _) = _
          rw [hx8]
          show (Tilt.closed x8.2 >>= _) = _
          rw [hu9]; rfl
        obtain ⟨Rp8, Or8, sz8⟩ := Bt.line_rep Rp Or hL
        exact ⟨bs.length - x6.2, by omega, q6, x6.2, s7.1, x8.1, x8.2, k, rfl, rfl, K9, R8, Rp8, Or8, by simp only at sz8; omega, hs5, hlt6, by omega, D⟩
    · have cc' : ¬ (e + 1 < bs.length) := fun z => cc (decide_eq_true z)
      have er : Bt.restOf bs k (e + 1) y t = .ok t := by
        cases k with
        | zero => rfl
        | succ k => show (if e + 1 < bs.length then _ else _) = _; rw [if_neg cc']
      rw [er] at D
      have D : Does A.F [] H (if t.drained < t.T.balls then .error ⟨8, bs.length⟩ else .ok t) (fun q v H' => ∃ b : Tb, v = .ref b.t ∧ TabAt A.T H' b q) Q E := D
      refine ⟨_, rfl, b.t, A.T, b.dx, _, _, rfl, R'.tab.tab, T.cT, T.nT_drained, tf_drained, _, rfl, b.t, A.T, b.dx, _, _, rfl, R'.tab.tab, T.cT, T.nT_balls, tf_balls, _, _, rfl, rfl, _, rfl, ?_⟩
      refine ite2 (fun c9 => ?_) (fun c9 => ?_)
      · have c9' := of_decide_eq_true c9
        rw [if_pos (by omega)] at D
        refine ⟨_, rfl, a, _, rfl, .inl (SqL.of ha'), 8, _, rfl, fun dx hd => ?_⟩
        rw [List.length_map]
        exact D.raise K' hd
      · rw [if_neg (fun z => c9 (decide_eq_true (by omega)))] at D
        exact ⟨_, rfl, D.ok K' ⟨b, rfl, R'.tab⟩⟩
end
end Br
end
section
set_option Elab.async false
set_option linter.all false
set_option maxRecDepth 100000
set_option maxHeartbeats 1000000
namespace Br
open PySem PySem.Spec PyProof.Rows L2 Xc
open Tilt (Bytes)
def sf (pl cl op : Nat) (tu : Bool) (ta se : Int) : List (Str × V) := [("place", .int pl), ("closing", .int cl), ("opening", .int op), ("turned", .bl tu), ("taken", .int ta), ("seen", .int se)]
section
variable {pl cl op : Nat} {tu : Bool} {ta se : Int}
theorem sf_place : (sf pl cl op tu ta se).lookup ("place" : Str) = some (V.int pl) := by kernel_rfl
theorem sf_closing : (sf pl cl op tu ta se).lookup ("closing" : Str) = some (V.int cl) := by kernel_rfl
theorem sf_opening : (sf pl cl op tu ta se).lookup ("opening" : Str) = some (V.int op) := by kernel_rfl
theorem sf_turned : (sf pl cl op tu ta se).lookup ("turned" : Str) = some (V.bl tu) := by kernel_rfl
theorem sf_taken : (sf pl cl op tu ta se).lookup ("taken" : Str) = some (V.int ta) := by kernel_rfl
theorem sf_seen : (sf pl cl op tu ta se).lookup ("seen" : Str) = some (V.int se) := by kernel_rfl
theorem sf_pt (z : Int) : putF "taken" (.int z) (sf pl cl op tu ta se) = sf pl cl op tu z se := by kernel_rfl
theorem sf_ps (z : Int) : putF "seen" (.int z) (sf pl cl op tu ta se) = sf pl cl op tu ta z := by kernel_rfl
end
def cl01 (b : Bool) : Int := if b = true then 1 else 0
theorem cl01_eq {a b : Bool} : decide (cl01 a = cl01 b) = decide (a = b) := by cases a <;> cases b <;> rfl
def SwAt (C : Addr) (H : Hp) (a : Addr) (s : Tilt.Switch) (z : Tilt.Seen) : Prop := ∃ dx, H a = some (.ins C dx (sf s.place s.close s.open_ s.turned (cl01 z.closed) z.seen))
theorem bit_val (row place : Nat) : Builtin.bitAnd ((row : Int) / 2 ^ ((place : Int) % 8).toNat) 1 = cl01 (row.testBit (place % 8)) := by
  have e1 : ((place : Int) % 8).toNat = place % 8 := by omega
  rw [e1]
  have h := Bits.bit_at (x := (row : Int)) (place % 8)
  rw [Int.fdiv_eq_ediv_of_nonneg _ (two_pow_nn _)] at h
  rw [h, Nat.testBit_eq_decide_div_mod_eq]
  have e2 : (row : Int) / 2 ^ (place % 8) % 2 = ((row / 2 ^ (place % 8) % 2 : Nat) : Int) := by
    rw [Int.natCast_emod, Int.natCast_ediv, Int.natCast_pow]; rfl
  rw [e2]
  unfold cl01
  have : row / 2 ^ (place % 8) % 2 = 0 ∨ row / 2 ^ (place % 8) % 2 = 1 := by omega
  rcases this with q | q <;> rw [q] <;> rfl
def spSwInit (A : Ad) : Sp := fun vs H Q _ => ∃ (x dx : Addr) (pl cl op : Nat) (tu : Bool), vs = [.ref x, .int pl, .int cl, .int op, .bl tu] ∧ H x = some (.ins A.S dx []) ∧ ∀ H', Kp [x] H H' → H' x = some (.ins A.S dx (sf pl cl op tu 0 0)) → Q .non H'
def spLack (A : Ad) : Sp := fun vs H Q _ => ∃ a s z, vs = [.ref a] ∧ SwAt A.S H a s z ∧ Q (.int ((s.wants z.closed : Int) - z.seen)) H
def spTurn (A : Ad) : Sp := fun vs H Q _ => ∃ a s z row, vs = [.ref a, .int ((row : Nat) : Int)] ∧ SwAt A.S H a s z ∧ ∀ H', Kp [a] H H' → SwAt A.S H' a s (Bt.turn s z row).1 → Q (.bl (Bt.turn s z row).2) H'
def spEvent (A : Ad) : Sp := fun vs H Q _ => ∃ a s z, vs = [.ref a] ∧ SwAt A.S H a s z ∧ Q (.int (Bt.evOf s z : Nat)) H
abbrev sSwInit : Stmt := inClass (top 13) 0
abbrev sLack : Stmt := inClass (top 13) 1
abbrev sTurn : Stmt := inClass (top 13) 2
abbrev sEvent : Stmt := inClass (top 13) 3
section
variable {P : Program} {w : World} {K : PySem.W.Frag} {mg : Str → Option Value} {base : Heap} {A : Ad} {f : Addr} {fd : FuncData}
theorem scSwInit : FnScope ["self", "place", "closing", "opening", "turned"] ["self", "place", "closing", "opening", "turned"] (defScope sSwInit) := ⟨rfl, rfl, rfl, by decide +kernel, rfl, by decide +kernel, by decide +kernel⟩
theorem ok_swinit (T : Tx K mg A) (G : Fun K "__init__" "Switch.__init__" sSwInit f fd) : FnOk P w K mg base CX0 1 f fd ["self", "place", "closing", "opening", "turned"] (spSwInit A) := by
  refine G.ok scSwInit (fun vs H Q E h => ?_) (fun cdv Ar outer s H vs Q E hr h => ?_)
  · obtain ⟨x, dx, pl, cl, op, tu, rfl, _⟩ := h
    rfl
  · obtain ⟨x, dx, pl, cl, op, tu, rfl, hx, k⟩ := h
    refine ⟨_, pss_cons (ps_fld (pv 0) (pv 1) rfl) (pss_cons (ps_fld (pv 0) (pv 2) rfl) (pss_cons (ps_fld (pv 0) (pv 3) rfl) (pss_cons (ps_fld (pv 0) (pv 4) rfl) (pss_cons (ps_fld (pv 0) pe_int rfl) (pss_one (ps_fld (pv 0) pe_int rfl)))))), ?_⟩
    refine ⟨_, rfl, _, rfl, x, A.S, dx, _, rfl, hx, T.cS, T.nS_place, (by show 0 < 1000; decide), ?_⟩
    refine ⟨_, rfl, _, rfl, x, A.S, dx, _, rfl, upd_same, T.cS, T.nS_closing, lt_put (Nat.le_refl 0), ?_⟩
    refine ⟨_, rfl, _, rfl, x, A.S, dx, _, rfl, upd_same, T.cS, T.nS_opening, lt_put (len_put (Nat.le_refl 0)), ?_⟩
    refine ⟨_, rfl, _, rfl, x, A.S, dx, _, rfl, upd_same, T.cS, T.nS_turned, lt_put (len_put (len_put (Nat.le_refl 0))), ?_⟩
    refine ⟨_, rfl, x, A.S, dx, _, rfl, upd_same, T.cS, T.nS_taken, lt_put (len_put (len_put (len_put (Nat.le_refl 0)))), ?_⟩
    refine ⟨_, rfl, x, A.S, dx, _, rfl, upd_same, T.cS, T.nS_seen, lt_put (len_put (len_put (len_put (len_put (Nat.le_refl 0))))), ?_⟩
    rw [upd_upd, upd_upd, upd_upd, upd_upd, upd_upd]
    exact k _ (Kp.upd (by simp)) (upd_same.trans (congrArg (fun q => some (HO.ins A.S dx q)) (by kernel_rfl)))
theorem scLack : FnScope ["self", "wanted"] ["self"] (defScope sLack) := ⟨rfl, rfl, rfl, by decide +kernel, rfl, by decide +kernel, by decide +kernel⟩
theorem ok_lack (T : Tx K mg A) (G : Fun K "lacking" "Switch.lacking" sLack f fd) : FnOk P w K mg base CX0 1 f fd ["self"] (spLack A) := by
  refine G.ok scLack (fun vs H Q E h => ?_) (fun cdv Ar outer s H vs Q E hr h => ?_)
  · obtain ⟨a, s, z, rfl, _⟩ := h
    rfl
  · obtain ⟨a, s, z, rfl, ⟨dx, ha⟩, k⟩ := h
    refine ⟨_, pss_cons (ps_set (i := 1) scLack.nd rfl (Or.inl rfl) (pe_ifExp (pt_cmpR op_eq (pe_fld (pv 0) rfl) pe_int (nomark _)) (pe_fld (pv 0) rfl) (pe_fld (pv 0) rfl))) (pss_one (ps_ret (pe_op op_sub (pv 1) (pe_fld (pv 0) rfl)))), ?_⟩
    refine ⟨_, rfl, a, A.S, dx, _, _, rfl, ha, T.cS, T.nS_taken, sf_taken, rfl, _, rfl, ?_⟩
    have e0 : decide (V.int (cl01 z.closed) = V.int 0) = decide (z.closed = false) := by
      rw [dInt]; cases z.closed <;> rfl
    rw [e0]
    have hw : s.wants z.closed = if z.closed = true then s.open_ else s.close := rfl
    refine ite2 (fun c => ?_) (fun c => ?_)
    · have c' := of_decide_eq_true c
      refine ⟨_, rfl, a, A.S, dx, _, _, rfl, ha, T.cS, T.nS_closing, sf_closing, ?_⟩
      refine ⟨_, rfl, _, rfl, a, A.S, dx, _, _, rfl, ha, T.cS, T.nS_seen, sf_seen, _, _, rfl, rfl, ?_⟩
      rw [hw, c', if_neg (by decide)] at k
      exact k
    · have c' : z.closed = true := by
        cases q : z.closed with
        | true => rfl
        | false => exact absurd (decide_eq_true q) c
      refine ⟨_, rfl, a, A.S, dx, _, _, rfl, ha, T.cS, T.nS_opening, sf_opening, ?_⟩
      refine ⟨_, rfl, _, rfl, a, A.S, dx, _, _, rfl, ha, T.cS, T.nS_seen, sf_seen, _, _, rfl, rfl, ?_⟩
      rw [hw, c', if_pos rfl] at k
      exact k
theorem scTurn : FnScope ["self", "row", "sample"] ["self", "row"] (defScope sTurn) := ⟨rfl, rfl, rfl, by decide +kernel, rfl, by decide +kernel, by decide +kernel⟩
theorem ok_turn (T : Tx K mg A) (mLack : Mt P w K mg base CX0 A.S "lacking" 1 ["self"] (spLack A)) (G : Fun K "turn_by" "Switch.turn_by" sTurn f fd) : FnOk P w K mg base CX0 2 f fd ["self", "row"] (spTurn A) := by
  refine G.ok scTurn (fun vs H Q E h => ?_) (fun cdv Ar outer s H vs Q E hr h => ?_)
  · obtain ⟨a, s, z, row, rfl, _⟩ := h
    rfl
  · obtain ⟨a, s, z, row, rfl, ⟨dx, ha⟩, k⟩ := h
    refine ⟨_, pss_cons (ps_set (i := 2) scTurn.nd rfl (Or.inl rfl) (pe_op op_and (pe_op op_shr (pv 1) (pe_op op_mod (pe_fld (pv 0) rfl) (pe_gv rfl T.gCOLUMNS))) pe_int))
      (pss_cons (ps_if (pt_val (pe_fld (pv 0) rfl)) (pss_one (ps_set (i := 2) scTurn.nd rfl (Or.inl rfl) (pe_op op_sub pe_int (pv 2)))) pss_nil)
      (pss_cons (ps_if (pt_cmpR op_eq (pv 2) (pe_fld (pv 0) rfl) (nomark _)) (pss_cons (ps_fld (pv 0) pe_int rfl) (pss_one (ps_ret pe_bl))) pss_nil)
      (pss_cons (ps_fldaug (pv 0) pe_int in_add)
      (pss_cons (ps_if (pt_cmpR op_gt (pe_mt0 (pv 0) T.cS mLack hr (by decide) pass0) pe_int (nomark _)) (pss_one (ps_ret pe_bl)) pss_nil)
      (pss_cons (ps_fld (pv 0) (pv 2) rfl) (pss_cons (ps_fld (pv 0) pe_int rfl) (pss_one (ps_ret pe_bl)))))))), ?_⟩
    refine ⟨_, rfl, _, rfl, a, A.S, dx, _, _, rfl, ha, T.cS, T.nS_place, sf_place, _, _, rfl, rfl, (by show (0 : Int) < 8; decide), _, _, rfl, rfl, (by show (0 : Int) ≤ (s.place : Int) % 8; omega), _, _, rfl, rfl, ?_⟩
    have rest : ∀ c : Bool, c = s.reads (row.testBit (s.place % 8)) → tSeq (tIfS (tTest (tOp rEq (tVar 2) (tFld K (tVar 0) "taken"))) (tSeq (sFld K (tVar 0) (tC (.int 0)) "seen") (tRet (tC (.bl false)))) tNext) (tSeq (sFldAug K (tVar 0) (tC (.int 1)) rAdd "seen") (tSeq (tIfS (tTest (tOp (rI0 fun i j => .bl (decide (j < i))) (tMeth A.S "lacking" (spLack A) [] E0 (tVar 0) tNil) (tC (.int 0)))) (tRet (tC (.bl false))) tNext) (tSeq (sFld K (tVar 0) (tVar 2) "taken") (tSeq (sFld K (tVar 0) (tC (.int 0)) "seen") (tRet (tC (.bl true)))))))
        { nx := fun _ H' => Q .non H', rt := Q } [some (.ref a), some (.int row), some (.int (cl01 c))] H := fun c hc => by
      have hturn : Bt.turn s z row = s.sample z c := by rw [hc]; rfl
      rw [hturn] at k
      unfold Tilt.Switch.sample at k
      refine ⟨_, rfl, _, rfl, a, A.S, dx, _, _, rfl, ha, T.cS, T.nS_taken, sf_taken, rfl, _, rfl, ?_⟩
      rw [dInt, cl01_eq]
      refine ite2 (fun e => ?_) (fun e => ?_)
      · have e' := of_decide_eq_true e
        rw [if_pos e'] at k
        refine ⟨_, rfl, a, A.S, dx, _, rfl, ha, T.cS, T.nS_seen, (by show 6 < 1000; decide), ?_⟩
        rw [sf_ps]
        exact k _ (Kp.upd (by simp)) ⟨dx, upd_same⟩
      · have e' : ¬ c = z.closed := fun q => e (decide_eq_true q)
        rw [if_neg e'] at k
        refine ⟨_, rfl, a, A.S, dx, _, _, rfl, ha, T.cS, T.nS_seen, sf_seen, _, _, rfl, rfl, dx, _, ha, (by show 6 < 1000; decide), ?_⟩
        rw [sf_ps]
        have hz1 : SwAt A.S (upd H a (.ins A.S dx (sf s.place s.close s.open_ s.turned (cl01 z.closed) ((z.seen : Int) + 1)))) a s ⟨z.closed, z.seen + 1⟩ := ⟨dx, by rw [upd_same]; rfl⟩
        refine ⟨_, rfl, a, dx, _, rfl, upd_same, (by kernel_rfl), a, s, ⟨z.closed, z.seen + 1⟩, rfl, hz1, _, _, rfl, rfl, _, rfl, ?_⟩
        refine ite2 (fun e2 => ?_) (fun e2 => ?_)
        · have e2' := of_decide_eq_true e2
          rw [if_neg (by simp only at e2'; omega)] at k
          exact k _ (Kp.upd (by simp)) hz1
        · have e2' : ¬ ((0 : Int) < (s.wants z.closed : Int) - ((z.seen + 1 : Nat) : Int)) := fun q => e2 (decide_eq_true q)
          rw [if_pos (by omega)] at k
          refine ⟨_, rfl, _, rfl, a, A.S, dx, _, rfl, upd_same, T.cS, T.nS_taken, (by show 6 < 1000; decide), ?_⟩
          rw [sf_pt]
          refine ⟨_, rfl, a, A.S, dx, _, rfl, upd_same, T.cS, T.nS_seen, (by show 6 < 1000; decide), ?_⟩
          rw [sf_ps, upd_upd, upd_upd]
          exact k _ (Kp.upd (by simp)) ⟨dx, upd_same⟩
    refine ⟨_, rfl, a, A.S, dx, _, _, rfl, ha, T.cS, T.nS_turned, sf_turned, _, rfl, ?_⟩
    have hb := bit_val row s.place
    refine ite2 (fun e => ?_) (fun e => ?_)
    · refine ⟨_, rfl, _, _, rfl, rfl, ?_⟩
      have := rest (!(row.testBit (s.place % 8))) (by unfold Tilt.Switch.reads; rw [e]; cases row.testBit (s.place % 8) <;> rfl)
      have e3 : cl01 (!(row.testBit (s.place % 8))) = 1 - Builtin.bitAnd ((row : Int) / 2 ^ ((s.place : Int) % 8).toNat) 1 := by
        rw [hb]; cases row.testBit (s.place % 8) <;> rfl
      rw [e3] at this
      exact this
    · have := rest (row.testBit (s.place % 8)) (by unfold Tilt.Switch.reads; rw [eq_false_of_ne_true e]; cases row.testBit (s.place % 8) <;> rfl)
      rw [← hb] at this
      exact this
theorem scEvent : FnScope ["self"] ["self"] (defScope sEvent) := ⟨rfl, rfl, rfl, by decide +kernel, rfl, by decide +kernel, by decide +kernel⟩
theorem ok_event (T : Tx K mg A) (G : Fun K "event" "Switch.event" sEvent f fd) : FnOk P w K mg base CX0 1 f fd ["self"] (spEvent A) := by
  refine G.ok scEvent (fun vs H Q E h => ?_) (fun cdv Ar outer s H vs Q E hr h => ?_)
  · obtain ⟨a, s, z, rfl, _⟩ := h
    rfl
  · obtain ⟨a, s, z, rfl, ⟨dx, ha⟩, k⟩ := h
    refine ⟨_, pss_one (ps_ret (pe_ifExp (pt_cmpR op_eq (pe_fld (pv 0) rfl) pe_int (nomark _)) (pe_fld (pv 0) rfl) (pe_op op_add (pe_gv rfl T.gOPENED) (pe_fld (pv 0) rfl)))), ?_⟩
    refine ⟨_, rfl, a, A.S, dx, _, _, rfl, ha, T.cS, T.nS_taken, sf_taken, rfl, _, rfl, ?_⟩
    have e0 : decide (V.int (cl01 z.closed) = V.int 1) = decide (z.closed = true) := by
      rw [dInt]; cases z.closed <;> rfl
    rw [e0]
    unfold Bt.evOf at k
    refine ite2 (fun c => ?_) (fun c => ?_)
    · rw [if_pos (of_decide_eq_true c)] at k
      exact ⟨_, rfl, a, A.S, dx, _, _, rfl, ha, T.cS, T.nS_place, sf_place, k⟩
    · rw [if_neg fun q => c (decide_eq_true q)] at k
      refine ⟨_, rfl, a, A.S, dx, _, _, rfl, ha, T.cS, T.nS_place, sf_place, _, _, rfl, rfl, ?_⟩
      exact k
end
end Br
end
section
set_option Elab.async false
set_option linter.all false
set_option maxRecDepth 100000
set_option maxHeartbeats 1000000
namespace Br
open PySem PySem.Spec PyProof.Rows L2 Xc
open Tilt (Bytes)
def mf (tk : Int) (d l : Addr) : List (Str × V) := [("ticks", .int tk), ("switch_at", .ref d), ("columns", .ref l)]
section
variable {tk : Int} {d l : Addr}
theorem mf_ticks : (mf tk d l).lookup ("ticks" : Str) = some (V.int tk) := by kernel_rfl
theorem mf_at : (mf tk d l).lookup ("switch_at" : Str) = some (V.ref d) := by kernel_rfl
theorem mf_cols : (mf tk d l).lookup ("columns" : Str) = some (V.ref l) := by kernel_rfl
theorem mf_pt (z : Int) : putF "ticks" (.int z) (mf tk d l) = mf z d l := by kernel_rfl
end
abbrev SA := Tilt.Switch × Addr
def maK (sw : List Tilt.Switch) (as : List Addr) : List (Key × V) := (sw.zip as).map fun z => (.inl (z.1.place : Int), .ref z.2)
def colY (c : Nat) (sw : List Tilt.Switch) (as : List Addr) : List SA := (sw.zip as).filter fun y => Bt.inCol c y.1
def colV (c : Nat) (sw : List Tilt.Switch) (as : List Addr) : List V := (colY c sw as).map fun y => .ref y.2
structure Ma where
  m : Addr
  dx : Addr
  d : Addr
  l : Addr
  cs : List Addr
  as : List Addr
structure MatAt (A : Ad) (H : Hp) (b : Ma) (sw : List Tilt.Switch) (tick : Nat) (z : Tilt.Switch → Tilt.Seen) : Prop where
  obj : H b.m = some (.ins A.M b.dx (mf tick b.d b.l))
  dic : H b.d = some (.dK (maK sw b.as))
  lis : H b.l = some (.lst (b.cs.map V.ref))
  n8 : b.cs.length = 8
  cnd : b.cs.Nodup
  col : ∀ (c : Nat) a, b.cs[c]? = some a → H a = some (.lst (colV c sw b.as))
  len : b.as.length = sw.length
  nd : b.as.Nodup
  sws : ∀ y ∈ sw.zip b.as, SwAt A.S H y.2 y.1 (z y.1)
theorem zip_inj : ∀ {sw : List Tilt.Switch} {as : List Addr}, as.Nodup → ∀ {x y : SA}, x ∈ sw.zip as → y ∈ sw.zip as → x.2 = y.2 → x = y
  | [], _, _, _, _, h, _, _ => by simp at h
  | _ :: _, [], _, _, _, h, _, _ => by simp at h
  | s :: r, a :: as, hn, x, y, hx, hy, e => by
    rw [List.nodup_cons] at hn
    rw [List.zip_cons_cons, List.mem_cons] at hx hy
    rcases hx with rfl | hx <;> rcases hy with rfl | hy
    · rfl
    · exact absurd (by rw [show a = y.2 from e]; exact (List.of_mem_zip hy).2) hn.1
    · exact absurd (by rw [show a = x.2 from e.symm]; exact (List.of_mem_zip hx).2) hn.1
    · exact zip_inj hn.2 hx hy e
theorem zip_nd : ∀ {sw : List Tilt.Switch} {as : List Addr}, as.Nodup → (sw.zip as).Nodup
  | [], _, _ => by simp
  | _ :: _, [], _ => by simp
  | s :: r, a :: as, hn => by
    rw [List.nodup_cons] at hn
    rw [List.zip_cons_cons, List.nodup_cons]
    exact ⟨fun h => hn.1 (List.of_mem_zip h).2, zip_nd hn.2⟩
theorem col_fst {p : Tilt.Switch → Bool} : ∀ {sw : List Tilt.Switch} {as : List Addr}, as.length = sw.length → ((sw.zip as).filter fun y => p y.1).map (·.1) = sw.filter p
  | [], [], _ => rfl
  | s :: r, a :: as, h => by
    have ih := col_fst (p := p) (sw := r) (as := as) (by simpa using h)
    rw [List.zip_cons_cons, List.filter_cons, List.filter_cons]
    by_cases q : p s = true
    · rw [if_pos q, if_pos q, List.map_cons, ih]
    · rw [if_neg q, if_neg q, ih]
theorem MatAt.ins {A : Ad} {H : Hp} {b : Ma} {sw : List Tilt.Switch} {tick : Nat} {z : Tilt.Switch → Tilt.Seen} (M : MatAt A H b sw tick z) {a : Addr} (ha : a ∈ b.as) : ∃ (s : Tilt.Switch) (d : Addr) (y : Tilt.Seen), H a = some (.ins A.S d (sf s.place s.close s.open_ s.turned (cl01 y.closed) y.seen)) := by
  obtain ⟨i, hi, ei⟩ := List.getElem_of_mem ha
  have hi' : i < sw.length := by rw [← M.len]; exact hi
  have hm : (sw[i], a) ∈ sw.zip b.as := by
    rw [List.mem_iff_getElem]
    exact ⟨i, by rw [List.length_zip]; omega, by rw [List.getElem_zip, ei]⟩
  obtain ⟨dx, q⟩ := M.sws _ hm
  exact ⟨_, dx, _, q⟩
theorem MatAt.hm {A : Ad} {H : Hp} {b : Ma} {sw : List Tilt.Switch} {tick : Nat} {z : Tilt.Switch → Tilt.Seen} (M : MatAt A H b sw tick z) : b.m ∉ b.as := fun h => by
  obtain ⟨s', d', z', q⟩ := M.ins h
  rw [M.obj] at q
  injection q with q
  injection q with _ _ q
  have := congrArg List.length q
  cases this
theorem MatAt.keep {A : Ad} {H H' : Hp} {b : Ma} {sw : List Tilt.Switch} {tick : Nat} {z : Tilt.Switch → Tilt.Seen} (M : MatAt A H b sw tick z) (k : ∀ a o, H a = some o → a ∈ b.m :: b.d :: b.l :: (b.cs ++ b.as) → H' a = some o) : MatAt A H' b sw tick z := by
  refine ⟨k _ _ M.obj (by simp), k _ _ M.dic (by simp), k _ _ M.lis (by simp), M.n8, M.cnd, fun c a h => k _ _ (M.col c a h) ?_, M.len, M.nd, fun y hy => ?_⟩
  · have := List.mem_of_getElem? h
    simp [this]
  · obtain ⟨d', q⟩ := M.sws y hy
    have := (List.of_mem_zip hy).2
    exact ⟨d', k _ _ q (by simp [this])⟩
theorem pl_le : ∀ (l : List Tilt.Switch) (k : Nat), k ≤ 64 → l.Pairwise (fun a b => a.place < b.place) → (∀ s ∈ l, k ≤ s.place) → (∀ s ∈ l, s.place ≤ 63) → l.length + k ≤ 64
  | [], k, hk, _, _, _ => by simpa using hk
  | s :: r, k, hk, hp, h1, h2 => by
    rw [List.pairwise_cons] at hp
    have a := h1 s (by simp)
    have b := h2 s (by simp)
    have := pl_le r (s.place + 1) (by omega) hp.2 (fun x hx => hp.1 x hx) (fun x hx => h2 x (List.mem_cons_of_mem _ hx))
    simp only [List.length_cons]; omega
theorem good_len {T : Tilt.Table} (G : Bt.Good T) : T.switches.length ≤ 64 := by
  have := pl_le T.switches 0 (by decide) G.swp (fun _ _ => Nat.zero_le _) (fun s hs => (G.b63 s hs).1)
  omega
theorem valV_ma {q : Nat} : ∀ (sw : List Tilt.Switch) (as : List Addr), as.length = sw.length → (valV (maK sw as) (.inl (q : Int)) = none ∧ sw.find? (fun s => s.place == q) = none) ∨ ∃ s a, (s, a) ∈ sw.zip as ∧ sw.find? (fun s => s.place == q) = some s ∧ s.place = q ∧ valV (maK sw as) (.inl (q : Int)) = some (.ref a)
  | [], [], _ => .inl ⟨rfl, rfl⟩
  | s :: r, a :: as, h => by
    by_cases e : s.place = q
    · refine .inr ⟨s, a, by simp, by rw [List.find?_cons]; simp [e], e, valV_pos (by show (Sum.inl (s.place : Int) : Key) = _; rw [e])⟩
    · have e1 : valV (maK (s :: r) (a :: as)) (.inl (q : Int)) = valV (maK r as) (.inl (q : Int)) := valV_neg (fun z => e (by
        have z' : (Sum.inl (s.place : Int) : Key) = Sum.inl (q : Int) := z
        injection z' with z''
        omega))
      have e2 : (s.place == q) = false := by simpa using e
      rw [e1, List.find?_cons, e2]
      rcases valV_ma r as (by simpa using h) with ⟨h1, h2⟩ | ⟨s', a', h1, h2, h3, h4⟩
      · exact .inl ⟨h1, h2⟩
      · exact .inr ⟨s', a', by rw [List.zip_cons_cons]; exact List.mem_cons_of_mem _ h1, h2, h3, h4⟩
theorem for_vals {d : Addr} {o : Obj} {kvs : List (Key × V)} {g : TG} {tb : TS} {D : Ends} {σ : L2.St} {H : Hp} (Pv : Nat → L2.St → Hp → Prop) (h0 : Pv 0 σ H) (hl : ∀ i σ H, Pv i σ H → H d = some (.frz o (.dK kvs)))
    (hs : ∀ i k x σ H, kvs[i]? = some (k, x) → Pv i σ H → g x σ H fun σ2 H2 => tb { D with nx := Pv (i + 1), ct := Pv (i + 1), bk := D.nx } σ2 H2) (hd : ∀ σ H, Pv kvs.length σ H → D.nx σ H) :
    ∃ W : Nat → Nat → L2.St → Hp → Prop, (∃ m, W 0 m σ H) ∧ ∀ i m σ H, W i m σ H →
      ((Itd d o kvs).stop i H ∧ D.nx σ H) ∨ ((Itd d o kvs).go i H ∧ ∃ N : L2.St → Hp → Prop, (∀ σ' H', N σ' H' → ∃ m', m' < m ∧ W (i + 1) m' σ' H') ∧ ∀ x H', (Itd d o kvs).yld i H x H' → g x σ H' fun σ2 H2 => tb { D with nx := N, ct := N, bk := D.nx } σ2 H2) := by
  refine ⟨fun i m σ H => m = kvs.length - i ∧ i ≤ kvs.length ∧ Pv i σ H, ⟨kvs.length, by simp, Nat.zero_le _, h0⟩, ?_⟩
  rintro i m σ H ⟨rfl, hi, p⟩
  by_cases hlt : i < kvs.length
  · refine .inr ⟨⟨hl _ _ _ p, hlt⟩, Pv (i + 1), fun σ' H' p' => ⟨kvs.length - (i + 1), by omega, rfl, hlt, p'⟩, fun x H' y => ?_⟩
    obtain ⟨e, k, hk⟩ := y
    subst e
    exact hs i k x σ _ hk p
  · have e : i = kvs.length := by omega
    subst e
    exact .inl ⟨⟨hl _ _ _ p, Nat.le_refl _⟩, hd σ H p⟩
theorem for_enum {K : PySem.W.Frag} {a : Addr} {xs : List V} {g : TG} {tb : TS} {D : Ends} {σ : L2.St} {H : Hp} (Pv : Nat → L2.St → Hp → Prop) (h0 : Pv 0 σ H) (hl : ∀ i σ H, i ≤ xs.length → Pv i σ H → SqL K H a xs)
    (hs : ∀ i x t σ H, xs[i]? = some x → Pv i σ H → H t = none → g (.ref t) σ (upd H t (.tup [.int (i : Nat), x])) fun σ2 H2 => tb { D with nx := Pv (i + 1), ct := Pv (i + 1), bk := D.nx } σ2 H2) (hd : ∀ σ H, Pv xs.length σ H → D.nx σ H) :
    ∃ W : Nat → Nat → L2.St → Hp → Prop, (∃ m, W 0 m σ H) ∧ ∀ i m σ H, W i m σ H →
      ((Ite K a).stop i H ∧ D.nx σ H) ∨ ((Ite K a).go i H ∧ ∃ N : L2.St → Hp → Prop, (∀ σ' H', N σ' H' → ∃ m', m' < m ∧ W (i + 1) m' σ' H') ∧ ∀ x H', (Ite K a).yld i H x H' → g x σ H' fun σ2 H2 => tb { D with nx := N, ct := N, bk := D.nx } σ2 H2) := by
  refine ⟨fun i m σ H => m = xs.length - i ∧ i ≤ xs.length ∧ Pv i σ H, ⟨xs.length, by simp, Nat.zero_le _, h0⟩, ?_⟩
  rintro i m σ H ⟨rfl, hi, p⟩
  have q := hl i σ H hi p
  by_cases hlt : i < xs.length
  · refine .inr ⟨⟨xs, xs[i], q, by simp [hlt]⟩, Pv (i + 1), fun σ' H' p' => ⟨xs.length - (i + 1), by omega, rfl, hlt, p'⟩, fun x H' y => ?_⟩
    obtain ⟨t, v, rfl, ht, rfl, hx⟩ := y
    exact hs i v t σ _ (hx xs q) p ht
  · have e : i = xs.length := by omega
    subst e
    exact .inl ⟨⟨xs, q, Nat.le_refl _⟩, hd σ H p⟩
def nV (l : List Nat) : List V := l.map fun (n : Nat) => V.int n
def spRow (A : Ad) : Sp := fun vs H Q _ => ∃ (b : Ma) (T : Tilt.Table) (x : Tilt.Scan) (row : Nat), vs = [.ref b.m, .int row] ∧ Bt.Good T ∧ MatAt A H b T.switches x.tick (Bt.seenOf x) ∧
  ∀ e H', Kp (b.m :: b.as) H H' → H e = none → H' e = some (.lst (nV (T.row x row).2)) → MatAt A H' b T.switches (T.row x row).1.tick (Bt.seenOf (T.row x row).1) → Q (.ref e) H'
def spTold (A : Ad) : Sp := fun vs H Q _ => ∃ (b : Ma) (sw : List Tilt.Switch) (tick : Nat) (z : Tilt.Switch → Tilt.Seen) (s : Tilt.Switch) (a : Addr), vs = [.ref b.m, .ref a] ∧ MatAt A H b sw tick z ∧ (s, a) ∈ sw.zip b.as ∧
  Q (.int (((s.place : Int) / 8 - tick) % 8 + 1 + 8 * ((s.wants (z s).closed : Int) - (z s).seen - 1))) H
abbrev sMaInit : Stmt := inClass (top 14) 0
abbrev sRow : Stmt := inClass (top 14) 1
abbrev sTold : Stmt := inClass (top 14) 2
theorem rowEv_snoc {x : Tilt.Scan} {row : Nat} (l : List Tilt.Switch) (s : Tilt.Switch) : Bt.rowEv x row (l ++ [s]) = Bt.rowEv x row l ++ if (Bt.turn s (Bt.seenOf x s) row).2 = true then [Bt.evOf s (Bt.turn s (Bt.seenOf x s) row).1] else [] := by
  unfold Bt.rowEv
  rw [List.filterMap_append]
  congr 1
  by_cases c : (Bt.turn s (Bt.seenOf x s) row).2 = true
  · simp [c]
  · simp [c]
theorem rowEv_len {x : Tilt.Scan} {row : Nat} (l : List Tilt.Switch) : (Bt.rowEv x row l).length ≤ l.length := List.length_filterMap_le _ _
section
variable {P : Program} {w : World} {K : PySem.W.Frag} {mg : Str → Option Value} {base : Heap} {A : Ad} {f : Addr} {fd : FuncData}
theorem scTold : FnScope ["self", "switch", "ticks_before_sample"] ["self", "switch"] (defScope sTold) := ⟨rfl, rfl, rfl, by decide +kernel, rfl, by decide +kernel, by decide +kernel⟩
theorem ok_told (T : Tx K mg A) (mLack : Mt P w K mg base CX0 A.S "lacking" 1 ["self"] (spLack A)) (G : Fun K "ticks_until_told" "Matrix.ticks_until_told" sTold f fd) : FnOk P w K mg base CX0 2 f fd ["self", "switch"] (spTold A) := by
  refine G.ok scTold (fun vs H Q E h => ?_) (fun cdv Ar outer s H vs Q E hr h => ?_)
  · obtain ⟨b, sw, tick, z, s, a, rfl, _⟩ := h
    rfl
  · obtain ⟨b, sw, tick, z, s, a, rfl, M, hs, k⟩ := h
    refine ⟨_, pss_cons (ps_set (i := 2) scTold.nd rfl (Or.inl rfl) (pe_op op_mod (pe_op op_sub (pe_op op_fdiv (pe_fld (pv 1) rfl) (pe_gv rfl T.gCOLUMNS)) (pe_fld (pv 0) rfl)) (pe_gv rfl T.gCOLUMNS)))
      (pss_one (ps_ret (pe_op op_add (pe_op op_add (pv 2) pe_int) (pe_op op_mul (pe_gv rfl T.gCOLUMNS) (pe_op op_sub (pe_mt0 (pv 1) T.cS mLack hr (by decide) pass0) pe_int))))), ?_⟩
    have hsw := M.sws _ hs
    obtain ⟨dx, ha⟩ := id hsw
    refine ⟨_, rfl, a, A.S, dx, _, _, rfl, ha, T.cS, T.nS_place, sf_place, _, _, rfl, rfl, (by show (0 : Int) < 8 ∧ (8 : Int) < 1073741824; decide), _, rfl, b.m, A.M, b.dx, _, _, rfl, M.obj, T.cM, T.nM_ticks, mf_ticks, _, _, rfl, rfl, _, _, rfl, rfl, (by show (0 : Int) < 8; decide), ?_⟩
    refine ⟨_, rfl, _, _, rfl, rfl, _, rfl, a, dx, _, rfl, ha, (by kernel_rfl), a, s, z s, rfl, hsw, _, _, rfl, rfl, _, _, rfl, rfl, .inl (by show (-(2 ^ 64) : Int) < 8 ∧ (8 : Int) < 2 ^ 64; decide), _, _, rfl, rfl, ?_⟩
    exact k
theorem scRow : FnScope ["self", "row", "events", "switch"] ["self", "row"] (defScope sRow) := ⟨rfl, rfl, rfl, by decide +kernel, rfl, by decide +kernel, by decide +kernel⟩
theorem ok_row (T : Tx K mg A) (mTurn : Mt P w K mg base CX0 A.S "turn_by" 2 ["self", "row"] (spTurn A)) (mEv : Mt P w K mg base CX0 A.S "event" 1 ["self"] (spEvent A)) (G : Fun K "take_row" "Matrix.take_row" sRow f fd) : FnOk P w K mg base CX0 3 f fd ["self", "row"] (spRow A) := by
  refine G.ok scRow (fun vs H Q E h => ?_) (fun cdv Ar outer s H vs Q E hr h => ?_)
  · obtain ⟨b, t, x, row, rfl, _⟩ := h
    rfl
  · obtain ⟨b, t, x, row, rfl, Gd, M, k⟩ := h
    refine ⟨_, pss_cons (ps_set (i := 2) scRow.nd rfl (Or.inl rfl) (pe_lst pa_nil))
      (pss_cons (ps_for PassesOwn.never rfl (pi_list (pe_ix ix_list (pe_fld (pv 0) rfl) (pe_op op_mod (pe_fld (pv 0) rfl) (pe_gv rfl T.gCOLUMNS)) (fun _ _ => rfl))) (pg_name (i := 3) scRow.nd rfl (Or.inl rfl))
        (pss_one (ps_if (pt_val (pe_mt (pv 3) T.cS mTurn hr (by decide) pass0 (pa_cons (pv 1) pa_nil))) (pss_one (ps_expr (pe_bm PySem.F.plainAttrs_list PySem.F.slot_list_append PySem.F.type_list_append mt_append (pv 2) (pa_cons (pe_mt0 (pv 3) T.cS mEv hr (by decide) pass0) pa_nil)))) pss_nil)))
      (pss_cons (ps_fldaug (pv 0) pe_int in_add)
      (pss_one (ps_ret (pv 2))))), ?_⟩
    refine ⟨(by show 0 ≤ sizeLine; exact Nat.zero_le _), fun e he => ?_⟩
    have s0 : Same H (upd H e (.lst [])) := Kp.same.mp (Kp.new he)
    have hc8 : x.tick % 8 < b.cs.length := by rw [M.n8]; omega
    have hcol := M.col _ _ (List.getElem?_eq_getElem hc8)
    refine ⟨_, rfl, b.m, A.M, b.dx, _, _, rfl, s0 _ _ M.obj, T.cM, T.nM_columns, mf_cols, _, rfl, b.m, A.M, b.dx, _, _, rfl, s0 _ _ M.obj, T.cM, T.nM_ticks, mf_ticks, _, _, rfl, rfl, (by show (0 : Int) < 8; decide), b.l, b.cs.map V.ref, ((x.tick % 8 : Nat) : Int), V.ref (b.cs[x.tick % 8]), rfl, (by show V.int ((x.tick : Int) % 8) = _; rw [Int.natCast_emod]; rfl), SqL.of (s0 _ _ M.lis), atI_nat (by rw [List.getElem?_map, List.getElem?_eq_getElem hc8]; rfl), b.cs[x.tick % 8], rfl, ⟨_, SqL.of (s0 _ _ hcol)⟩, ?_⟩
    have hcl : e ≠ b.cs[x.tick % 8] := fun z => by rw [← z, he] at hcol; cases hcol
    have hle := good_len Gd
    have hsl := sizeLine_eq
    have hfst : (colY (x.tick % 8) t.switches b.as).map (·.1) = t.switches.filter (Bt.inCol (x.tick % 8)) := col_fst (p := Bt.inCol (x.tick % 8)) M.len
    have hylen : (colY (x.tick % 8) t.switches b.as).length ≤ 64 := by
      have h1 : (colY (x.tick % 8) t.switches b.as).length = (t.switches.filter (Bt.inCol (x.tick % 8))).length := by rw [← hfst, List.length_map]
      have h2 := List.length_filter_le (Bt.inCol (x.tick % 8)) t.switches
      omega
    have hynd : (colY (x.tick % 8) t.switches b.as).Nodup := (zip_nd M.nd).filter _
    have hysub : ∀ y ∈ colY (x.tick % 8) t.switches b.as, y ∈ t.switches.zip b.as := fun y hy => (List.mem_filter.mp hy).1
    generalize hys : colY (x.tick % 8) t.switches b.as = ys at hfst hylen hynd hysub
    have hcv : colV (x.tick % 8) t.switches b.as = ys.map fun y => .ref y.2 := by unfold colV; rw [hys]
    rw [hcv] at hcol
    have hnl : ∀ a ∈ b.as, ∀ xs, H a ≠ some (.lst xs) := fun a ha xs z => by
      obtain ⟨s', d', z', q⟩ := M.ins ha
      rw [z] at q; cases q
    refine for_list (K := K) (a := b.cs[x.tick % 8]) (xs := ys.map fun y => .ref y.2) (fun i σ H' => (∃ v3, σ = [some (.ref b.m), some (.int row), some (.ref e), v3]) ∧ Kp (e :: b.as) (upd H e (.lst [])) H' ∧ H' e = some (.lst (nV (Bt.rowEv x row ((ys.take i).map (·.1))))) ∧
      (∀ y ∈ ys.take i, SwAt A.S H' y.2 y.1 (Bt.turn y.1 (Bt.seenOf x y.1) row).1) ∧ ∀ y ∈ t.switches.zip b.as, y ∉ ys.take i → SwAt A.S H' y.2 y.1 (Bt.seenOf x y.1)) ?_ ?_ ?_ ?_
    · refine ⟨⟨none, rfl⟩, Kp.refl _ _, upd_same, fun y hy => by simp at hy, fun y hy _ => ?_⟩
      obtain ⟨dx, q⟩ := M.sws _ hy
      exact ⟨dx, s0 _ _ q⟩
    · rintro i σ H' _ ⟨_, kp, _⟩
      refine SqL.of (kp _ _ (s0 _ _ hcol) fun z => ?_)
      rcases List.mem_cons.mp z with q | q
      · exact hcl q.symm
      · exact hnl _ q _ hcol
    · rintro i v σ H' hv ⟨⟨v3, rfl⟩, kp, hev, hdone, htodo⟩
      rw [List.getElem?_map] at hv
      obtain ⟨y, hy, rfl⟩ := Option.map_eq_some_iff.mp hv
      have hym : y ∈ ys := List.mem_of_getElem? hy
      have hts : ys.take (i + 1) = ys.take i ++ [y] := take_snoc hy
      have hyn : y ∉ ys.take i := fun z => by
        have h1 : (ys.take (i + 1)).Nodup := hynd.sublist (List.take_sublist _ _)
        rw [hts, List.nodup_append] at h1
        exact h1.2.2 y z y (by simp) rfl
      have hsw := htodo y (hysub y hym) hyn
      obtain ⟨dx, ha⟩ := id hsw
      have hey : e ≠ y.2 := fun z => by rw [← z, hev] at ha; cases ha
      have hya : y.2 ∈ b.as := (List.of_mem_zip (hysub y hym)).2
      refine ⟨_, rfl, y.2, dx, _, rfl, ha, (by kernel_rfl), _, rfl, y.2, y.1, Bt.seenOf x y.1, row, rfl, hsw, fun H2 k2 hs2 => ⟨_, rfl, ?_⟩⟩
      have kp2 : Kp (e :: b.as) (upd H e (.lst [])) H2 := kp.trans (k2.mono fun z hz => by
        rw [List.mem_singleton] at hz; rw [hz]; exact List.mem_cons_of_mem _ hya)
      have hev2 := k2 _ _ hev (by simpa using hey)
      have hd2 : ∀ y' ∈ ys.take (i + 1), SwAt A.S H2 y'.2 y'.1 (Bt.turn y'.1 (Bt.seenOf x y'.1) row).1 := fun y' hy' => by
        rw [hts, List.mem_append, List.mem_singleton] at hy'
        rcases hy' with q | rfl
        · obtain ⟨dx', q'⟩ := hdone y' q
          exact ⟨dx', k2 _ _ q' (by
            rw [List.mem_singleton]; intro z
            exact hyn ((zip_inj M.nd (hysub _ (List.mem_of_mem_take q)) (hysub _ hym) z) ▸ q))⟩
        · exact hs2
      have ht2 : ∀ y' ∈ t.switches.zip b.as, y' ∉ ys.take (i + 1) → SwAt A.S H2 y'.2 y'.1 (Bt.seenOf x y'.1) := fun y' hy' hn' => by
        rw [hts, List.mem_append, List.mem_singleton, not_or] at hn'
        obtain ⟨dx', q'⟩ := htodo y' hy' hn'.1
        exact ⟨dx', k2 _ _ q' (by
          rw [List.mem_singleton]; intro z
          exact hn'.2 (zip_inj M.nd hy' (hysub _ hym) z))⟩
      have hmap : (ys.take (i + 1)).map (·.1) = (ys.take i).map (·.1) ++ [y.1] := by rw [hts, List.map_append]; rfl
      refine ite2 (fun c => ?_) (fun c => ?_)
      · obtain ⟨dx2, ha2⟩ := id hs2
        refine ⟨_, rfl, .inl ⟨rfl, _, SqL.of hev2⟩, _, rfl, y.2, dx2, _, rfl, ha2, (by kernel_rfl), y.2, y.1, _, rfl, hs2, e, _, _, rfl, rfl, hev2, ?_, ?_⟩
        · unfold nV
          have h1 := rowEv_len (x := x) (row := row) ((ys.take i).map (·.1))
          rw [List.length_map, List.length_take] at h1
          rw [List.length_map]; omega
        · have up : ∀ a o, H2 a = some o → a ≠ e → ∀ u, upd H2 e u a = some o := fun a o q n u => (upd_ne n).trans q
          refine ⟨⟨_, rfl⟩, kp2.trans (Kp.upd (by simp)), ?_, fun y' hy' => ?_, fun y' hy' hn' => ?_⟩
          · rw [upd_same, hmap, rowEv_snoc, if_pos c]
            unfold nV
            rw [List.map_append]; rfl
          · obtain ⟨d', q'⟩ := hd2 y' hy'
            exact ⟨d', up _ _ q' (fun z => by rw [z, hev2] at q'; cases q') _⟩
          · obtain ⟨d', q'⟩ := ht2 y' hy' hn'
            exact ⟨d', up _ _ q' (fun z => by rw [z, hev2] at q'; cases q') _⟩
      · refine ⟨⟨_, rfl⟩, kp2, ?_, hd2, ht2⟩
        rw [hmap, rowEv_snoc, if_neg c, List.append_nil]
        exact hev2
    · rintro σ H' ⟨⟨v3, rfl⟩, kp, hev, hdone, htodo⟩
      rw [List.length_map, List.take_length] at hev hdone htodo
      have hem : ∀ a o, H a = some o → a ≠ e := fun a o q z => by rw [z, he] at q; cases q
      have kp' : ∀ a o, H a = some o → a ∉ b.as → H' a = some o := fun a o q n => kp a o (s0 _ _ q) (by
        rw [List.mem_cons, not_or]; exact ⟨hem a o q, n⟩)
      have hmas : b.m ∉ b.as := M.hm
      have hm' := kp' _ _ M.obj hmas
      refine ⟨_, rfl, b.m, A.M, b.dx, _, _, rfl, hm', T.cM, T.nM_ticks, mf_ticks, _, _, rfl, rfl, b.dx, _, hm', (by show 3 < 1000; decide), ?_⟩
      rw [mf_pt]
      have hme : b.m ≠ e := hem _ _ M.obj
      have hmn : ∀ a o, H' a = some o → a ≠ b.m → ∀ u, upd H' b.m u a = some o := fun a o q n u => (upd_ne n).trans q
      refine ⟨_, rfl, k e _ ?_ he ?_ ?_⟩
      · intro a o q n
        rw [List.mem_cons, not_or] at n
        exact hmn _ _ (kp' a o q n.2) n.1 _
      · rw [hmn _ _ hev (Ne.symm hme), hfst, Bt.row_events Gd]
      · have lists : ∀ a xs, H a = some (.lst xs) → upd H' b.m (.ins A.M b.dx (mf ((x.tick : Int) + 1) b.d b.l)) a = some (.lst xs) := fun a xs q => hmn _ _ (kp' a _ q fun z => hnl a z _ q) (fun z => by rw [z, M.obj] at q; cases q) _
        refine ⟨?_, ?_, lists _ _ M.lis, M.n8, M.cnd, fun c a q => lists _ _ (M.col c a q), M.len, M.nd, fun y hy => ?_⟩
        · rw [upd_same]; rfl
        · refine hmn _ _ (kp' _ _ M.dic fun z => ?_) (fun z => ?_) _
          · obtain ⟨s', d', z', q⟩ := M.ins z
            have := M.dic
            rw [q] at this; cases this
          · have := M.dic; rw [z, M.obj] at this; cases this
        · have hs : y.1 ∈ t.switches := (List.of_mem_zip hy).1
          have fin : ∀ z, SwAt A.S H' y.2 y.1 z → SwAt A.S (upd H' b.m (.ins A.M b.dx (mf ((x.tick : Int) + 1) b.d b.l))) y.2 y.1 z := fun z q => by
            obtain ⟨d', q'⟩ := q
            exact ⟨d', hmn _ _ q' (fun z => hmas (z ▸ (List.of_mem_zip hy).2)) _⟩
          cases hc : Bt.inCol (x.tick % 8) y.1 with
          | true =>
            rw [Bt.row_in Gd x row hs hc]
            exact fin _ (hdone y (by rw [← hys]; exact List.mem_filter.mpr ⟨hy, hc⟩))
          | false =>
            rw [Bt.row_out Gd x row hs hc]
            exact fin _ (htodo y hy (by
              rw [← hys]; intro z
              have := (List.mem_filter.mp z).2
              rw [show Bt.inCol (x.tick % 8) y.1 = false from hc] at this; cases this))
end
end Br
end
section
set_option Elab.async false
set_option linter.all false
set_option maxRecDepth 100000
set_option maxHeartbeats 1000000
namespace Br
open PySem PySem.Spec PyProof.Rows L2 Xc
open Tilt (Bytes)
def z0 : Tilt.Switch → Tilt.Seen := fun _ => ⟨false, 0⟩
def Ma.all (b : Ma) : List Addr := b.m :: b.d :: b.l :: (b.cs ++ b.as)
def spMaInit (A : Ad) : Sp := fun vs H Q _ => ∃ (x dx : Addr) (t : Tb) (q : Bt.PT), vs = [.ref x, .ref t.t] ∧ H x = some (.ins A.M dx []) ∧ TabAt A.T H t q ∧ Bt.Good q.T ∧
  ∀ (b : Ma) H', b.m = x → Kp [x] H H' → MatAt A H' b q.T.switches 0 z0 → (∀ y ∈ b.all, y = x ∨ H y = none) → Q .non H'
theorem zip_snoc {sw : List Tilt.Switch} {as : List Addr} (hl : as.length = sw.length) (s : Tilt.Switch) (a : Addr) : (sw ++ [s]).zip (as ++ [a]) = sw.zip as ++ [(s, a)] := by
  rw [List.zip_append hl.symm]; rfl
theorem MatAt.more {A : Ad} {H H2 : Hp} {b : Ma} {sw : List Tilt.Switch} {s : Tilt.Switch} {a dx c : Addr} {tick : Nat} (M : MatAt A H b sw tick z0) (hs : Same H H2) (ha : H a = none) (h2 : H2 a = some (.ins A.S dx (sf s.place s.close s.open_ s.turned 0 0)))
    (hp : ∀ s' ∈ sw, s'.place < s.place) (hc : b.cs[s.place / 8]? = some c) :
    MatAt A (upd (upd H2 b.d (.dK (putK (maK sw b.as) (.inl (s.place : Int)) (.ref a)))) c (.lst (colV (s.place / 8) sw b.as ++ [.ref a]))) { b with as := b.as ++ [a] } (sw ++ [s]) tick z0 := by
  have hcol := M.col _ _ hc
  have dc : b.d ≠ c := fun z => by have := M.dic; rw [z, hcol] at this; cases this
  have md : b.m ≠ b.d := fun z => by have := M.dic; rw [← z, M.obj] at this; cases this
  have mc : b.m ≠ c := fun z => by have := hcol; rw [← z, M.obj] at this; cases this
  have ld : b.l ≠ b.d := fun z => by have := M.dic; rw [← z, M.lis] at this; cases this
  have lc : b.l ≠ c := fun z => by
    have h1 := hcol; rw [← z, M.lis] at h1
    injection h1 with h1
    injection h1 with h1
    have hmem : V.ref c ∈ colV (s.place / 8) sw b.as := by rw [← h1]; exact List.mem_map.mpr ⟨c, List.mem_of_getElem? hc, rfl⟩
    unfold colV at hmem
    obtain ⟨y, hy, e⟩ := List.mem_map.mp hmem
    injection e with e
    obtain ⟨d', q⟩ := M.sws y (List.mem_filter.mp hy).1
    rw [e, hcol] at q; cases q
  have up : ∀ y o, H2 y = some o → y ≠ b.d → y ≠ c → upd (upd H2 b.d (.dK (putK (maK sw b.as) (.inl (s.place : Int)) (.ref a)))) c (.lst (colV (s.place / 8) sw b.as ++ [.ref a])) y = some o := fun y o q n1 n2 => by rw [upd_ne n2, upd_ne n1]; exact q
  have hnew : valV (maK sw b.as) (.inl (s.place : Int)) = none := by
    rcases valV_ma (q := s.place) sw b.as M.len with h | ⟨s', a', h1, _, h3, _⟩
    · exact h.1
    · have := hp s' (List.of_mem_zip h1).1
      omega
  have hput : putK (maK sw b.as) (.inl (s.place : Int)) (.ref a) = maK (sw ++ [s]) (b.as ++ [a]) := by
    rw [putK_new _ hnew]
    unfold maK
    rw [zip_snoc M.len, List.map_append]; rfl
  have hac : a ≠ c := fun z => by rw [z, hcol] at ha; cases ha
  have had : a ≠ b.d := fun z => by rw [z, M.dic] at ha; cases ha
  refine ⟨up _ _ (hs _ _ M.obj) md mc, ?_, up _ _ (hs _ _ M.lis) ld lc, M.n8, M.cnd, fun c' a' h => ?_, by simp [M.len], ?_, fun y hy => ?_⟩
  · rw [upd_ne dc, upd_same, hput]
  · have ecv : ∀ k, colV k (sw ++ [s]) (b.as ++ [a]) = colV k sw b.as ++ if Bt.inCol k s = true then [V.ref a] else [] := fun k => by
      unfold colV colY
      rw [zip_snoc M.len, List.filter_append, List.map_append]
      congr 1
      rw [List.filter_cons]
      by_cases q : Bt.inCol k s = true
      · rw [if_pos q, if_pos (show Bt.inCol k (s, a).1 = true from q)]; rfl
      · rw [if_neg q, if_neg (show ¬ Bt.inCol k (s, a).1 = true from q)]; rfl
    show _ = some (HO.lst (colV c' (sw ++ [s]) (b.as ++ [a])))
    rw [ecv]
    have h' : b.cs[c']? = some a' := h
    by_cases q : c' = s.place / 8
    · subst q
      obtain rfl : c = a' := Option.some.inj (hc.symm.trans h')
      rw [upd_same, if_pos (by unfold Bt.inCol; exact beq_self_eq_true _)]
    · have hne : a' ≠ c := fun z => q (nd_ix M.cnd h' (by rw [z]; exact hc))
      rw [if_neg (by unfold Bt.inCol; intro z; exact q (eq_of_beq z).symm), List.append_nil]
      have hca := M.col _ _ h'
      exact up _ _ (hs _ _ hca) (fun z => by have := M.dic; rw [← z, hca] at this; cases this) hne
  · show (b.as ++ [a]).Nodup
    rw [List.nodup_append]
    refine ⟨M.nd, by simp, fun x hx y hy => ?_⟩
    rw [List.mem_singleton] at hy
    subst hy
    intro z
    subst z
    obtain ⟨s', d', z', q⟩ := M.ins hx
    rw [ha] at q; cases q
  · have hy' : y ∈ (sw ++ [s]).zip (b.as ++ [a]) := hy
    rw [zip_snoc M.len, List.mem_append, List.mem_singleton] at hy'
    rcases hy' with h | rfl
    · obtain ⟨d', q⟩ := M.sws y h
      exact ⟨d', up _ _ (hs _ _ q) (fun z => by have := M.dic; rw [← z, q] at this; cases this) (fun z => by have := hcol; rw [← z, q] at this; cases this)⟩
    · exact ⟨dx, up _ _ h2 had hac⟩
section
variable {P : Program} {w : World} {K : PySem.W.Frag} {mg : Str → Option Value} {base : Heap} {A : Ad} {f : Addr} {fd : FuncData}
theorem scMaInit : FnScope ["self", "table", "place", "closing", "opening", "turned", "switch", "column"] ["self", "table"] (defScope sMaInit) := ⟨rfl, rfl, rfl, by decide +kernel, rfl, by decide +kernel, by decide +kernel⟩
theorem ok_mainit (T : Tx K mg A) (ckS : Ck P w K mg base CX0 "Switch" A.S 1 ["self", "place", "closing", "opening", "turned"] (spSwInit A)) (G : Fun K "__init__" "Matrix.__init__" sMaInit f fd) : FnOk P w K mg base CX0 3 f fd ["self", "table"] (spMaInit A) := by
  refine G.ok scMaInit (fun vs H Q E h => ?_) (fun cdv Ar outer s H vs Q E hr h => ?_)
  · obtain ⟨x, dx, t, q, rfl, _⟩ := h
    rfl
  · obtain ⟨x, dx, t, q, rfl, hx, TA, Gd, k⟩ := h
    have hu := hu_of hr
    refine ⟨_, pss_cons (ps_fld (pv 0) pe_int rfl) (pss_cons (ps_fld (pv 0) pe_dnewK rfl)
      (pss_cons (ps_fld (pv 0) (pe_lc (own := [("column", 7)]) rfl scMaInit.nd (pi_range1 rfl T.b_range (pa_cons (pe_gv rfl T.gCOLUMNS) pa_nil)) (blkOk_by (by kernel_rfl)) (fun _ _ _ _ _ => pg_name (i := 7) scMaInit.nd rfl (Or.inl rfl)) (fun _ _ _ _ _ => pts_nil) (fun _ _ _ _ _ => pe_lst pa_nil)) rfl)
      (pss_one (ps_lock (ps_for PassesOwn.never rfl (pi_values (pe_fld (pv 1) rfl))
        (pg_tup rfl (pgs_cons (pg_name (i := 2) scMaInit.nd rfl (Or.inl rfl)) (pgs_cons (pg_name (i := 3) scMaInit.nd rfl (Or.inl rfl)) (pgs_cons (pg_name (i := 4) scMaInit.nd rfl (Or.inl rfl)) (pgs_cons (pg_name (i := 5) scMaInit.nd rfl (Or.inl rfl)) pgs_nil)))))
        (pss_cons (ps_set (i := 6) scMaInit.nd rfl (Or.inl rfl) (pe_ck ckS hr (by decide) rfl pass0 (pa_cons (pv 2) (pa_cons (pv 3) (pa_cons (pv 4) (pa_cons (pv 5) pa_nil))))))
        (pss_cons (ps_dput hu (pe_fld (pv 0) rfl) (pv 2) (pv 6) rfl)
        (pss_one (ps_expr (pe_bm PySem.F.plainAttrs_list PySem.F.slot_list_append PySem.F.type_list_append mt_append (pe_ix ix_list (pe_fld (pv 0) rfl) (pe_op op_fdiv (pv 2) (pe_gv rfl T.gCOLUMNS)) (fun _ _ => rfl)) (pa_cons (pv 6) pa_nil))))))))))), ?_⟩
    refine ⟨_, rfl, x, A.M, dx, _, rfl, hx, T.cM, T.nM_ticks, (by show 0 < 1000; decide), ?_⟩
    intro d hd
    have hxd : x ≠ d := fun z => by rw [← z, upd_same] at hd; cases hd
    have hd0 : H d = none := by rw [upd_ne (Ne.symm hxd)] at hd; exact hd
    refine ⟨_, rfl, x, A.M, dx, _, rfl, (upd_ne hxd).trans upd_same, T.cM, T.nM_switch_at, lt_put (Nat.le_refl 0), ?_⟩
    refine ⟨8, rfl, (by decide), (by decide), fun l hl => ?_⟩
    have kq : ∀ y o, H y = some o → y ≠ x → upd (upd (upd H x (.ins A.M dx (putF "ticks" (.int 0) []))) d (.dK [])) x (.ins A.M dx (putF "switch_at" (.ref d) (putF "ticks" (.int 0) []))) y = some o := fun y o e n => by
      rw [upd_ne n, upd_ne (ne_of_none e hd0), upd_ne n]; exact e
    have xq : upd (upd (upd H x (.ins A.M dx (putF "ticks" (.int 0) []))) d (.dK [])) x (.ins A.M dx (putF "switch_at" (.ref d) (putF "ticks" (.int 0) []))) x = _ := upd_same
    have dq : upd (upd (upd H x (.ins A.M dx (putF "ticks" (.int 0) []))) d (.dK [])) x (.ins A.M dx (putF "switch_at" (.ref d) (putF "ticks" (.int 0) []))) d = some (.dK []) := (upd_ne (Ne.symm hxd)).trans upd_same
    generalize upd (upd (upd H x (.ins A.M dx (putF "ticks" (.int 0) []))) d (.dK [])) x (.ins A.M dx (putF "switch_at" (.ref d) (putF "ticks" (.int 0) []))) = H1 at kq xq dq hl ⊢
    have fr1 : ∀ y, H1 y = none → H y = none := fun y hy => by
      cases e : H y with
      | none => rfl
      | some o =>
        by_cases z : y = x
        · rw [z, xq] at hy; cases hy
        · rw [kq y o e z] at hy; cases hy
    refine lc_range (lo := 0) (n := 8) (fun i H' => Same H1 H' ∧ ∃ cs : List Addr, cs.length = i ∧ cs.Nodup ∧ H' l = some (.lst (cs.map V.ref)) ∧ ∀ c ∈ cs, H' c = some (.lst []) ∧ H1 c = none ∧ c ≠ l) ⟨Kp.same.mp (Kp.new hl), [], rfl, List.nodup_nil, upd_same, fun c hc => by cases hc⟩ ?_ ?_
    · rintro i H' hi ⟨hs, cs, hcl, hcn, hlc, hall⟩
      refine ⟨rfl, tyes ?_⟩
      refine ⟨(by show 0 ≤ sizeLine; exact Nat.zero_le _), fun p hp => ?_⟩
      have hlp : l ≠ p := ne_of_none hlc hp
      refine ⟨_, (upd_ne hlp).trans hlc, (by rw [List.length_map, hcl, sizeLine_eq]; omega), fun y o e => ?_, cs ++ [p], by simp [hcl], ?_, ?_, fun c hc => ?_⟩
      · rw [upd_ne (ne_of_none e hl), upd_ne (ne_of_none (hs y o e) hp)]; exact hs y o e
      · rw [List.nodup_append]
        refine ⟨hcn, by simp, fun y hy z hz => ?_⟩
        rw [List.mem_singleton] at hz; subst hz
        exact ne_of_none (hall y hy).1 hp
      · rw [upd_same, List.map_append]; rfl
      · rw [List.mem_append, List.mem_singleton] at hc
        rcases hc with hc | rfl
        · obtain ⟨h1, h2, h3⟩ := hall c hc
          exact ⟨by rw [upd_ne h3, upd_ne (ne_of_none h1 hp)]; exact h1, h2, h3⟩
        · exact ⟨by rw [upd_ne (Ne.symm hlp), upd_same], hs.free hp, Ne.symm hlp⟩
    · rintro H2 ⟨hs2, cs, hcl, hcn, hlc, hall⟩
      refine ⟨_, rfl, x, A.M, dx, _, rfl, hs2 _ _ xq, T.cM, T.nM_columns, lt_put (len_put (Nat.le_refl 0)), ?_⟩
      have emf : putF "columns" (.ref l) (putF "switch_at" (.ref d) (putF "ticks" (.int 0) [])) = mf 0 d l := by kernel_rfl
      rw [emf]
      have hxl : x ≠ l := ne_of_none xq hl
      have M3 : MatAt A (upd H2 x (.ins A.M dx (mf 0 d l))) ⟨x, dx, d, l, cs, []⟩ [] 0 z0 := by
        refine ⟨upd_same, (upd_ne (Ne.symm hxd)).trans (hs2 _ _ dq), (upd_ne (Ne.symm hxl)).trans hlc, hcl, hcn, fun c a h => ?_, rfl, List.nodup_nil, fun y hy => by cases hy⟩
        have h1 := (hall a (List.mem_of_getElem? h))
        exact (upd_ne (fun z => by have := h1.2.1; rw [z, xq] at this; cases this)).trans h1.1
      have k3 : Kp [x] H (upd H2 x (.ins A.M dx (mf 0 d l))) := fun y o e n => by
        have n' : y ≠ x := by simpa using n
        exact (upd_ne n').trans (hs2 _ _ (kq y o e n'))
      have hfr : ∀ y ∈ x :: d :: l :: cs, y = x ∨ H y = none := fun y hy => by
        simp only [List.mem_cons] at hy
        rcases hy with h | h | h | h
        · exact .inl h
        · rw [h]; exact .inr hd0
        · rw [h]; exact .inr (fr1 _ hl)
        · exact .inr (fr1 _ (hall y h).2.1)
      generalize upd H2 x (.ins A.M dx (mf 0 d l)) = H3 at M3 k3 ⊢
      obtain ⟨as1, hl1, hd1, g1⟩ := TA.sw
      have ntx : ∀ y u, H y = some u → (∀ C e fs, u ≠ .ins C e fs) → y ≠ x := fun y u e n z => by rw [z, hx] at e; exact n _ _ _ (Option.some.inj e).symm
      have hd13 := k3 _ _ hd1 (by simpa using ntx _ _ hd1 (fun _ _ _ z => nomatch z))
      have ht3 := k3 _ _ TA.tab (by
        simp only [List.mem_singleton]; intro z
        have := TA.tab
        rw [z, hx] at this
        injection this with this
        injection this with _ _ this
        cases this)
      have htd : t.t ≠ t.d1 := fun z => by have := TA.tab; rw [z, hd1] at this; cases this
      have hxd1 : t.d1 ≠ x := ntx _ _ hd1 (fun _ _ _ z => nomatch z)
      have hle := good_len Gd
      have hsl := sizeLine_eq
      have hkl : (swK q.T.switches as1).length = q.T.switches.length := by
        unfold swK
        rw [List.length_map, List.length_zip, hl1, Nat.min_self]
      have nall : ∀ {y : Addr}, (y = x ∨ H y = none) → y ≠ t.d1 := fun {y} h z => by
        rcases h with h | h
        · exact hxd1 (z.symm.trans h)
        · rw [z, hd1] at h; cases h
      refine ⟨t.d1, .dK (swK q.T.switches as1), hd13, trivial, fun od => ?_⟩
      refine ⟨_, rfl, t.t, A.T, t.dx, _, _, rfl, (upd_ne htd).trans ht3, T.cT, T.nT_switches, tf_switches, t.d1, od, _, rfl, upd_same, ?_⟩
      refine for_vals (d := t.d1) (o := od) (kvs := swK q.T.switches as1) (fun i σ H' => (∃ v2 v3 v4 v5 v6, σ = [some (.ref x), some (.ref t.t), v2, v3, v4, v5, v6, none]) ∧ (∀ y o, H y = some o → y ≠ x → y ≠ t.d1 → H' y = some o) ∧ H' t.d1 = some (.frz od (.dK (swK q.T.switches as1))) ∧
        ∃ as, MatAt A H' ⟨x, dx, d, l, cs, as⟩ (q.T.switches.take i) 0 z0 ∧ ∀ y ∈ as, H y = none) ?_ (fun i σ H' p => p.2.2.1) ?_ ?_
      · refine ⟨⟨none, none, none, none, none, rfl⟩, fun y o e n1 n2 => (upd_ne n2).trans (k3 _ _ e (by simpa using n1)), upd_same, [], ?_, fun y hy => by cases hy⟩
        refine M3.keep fun y o e hy => ?_
        refine (upd_ne (nall ?_)).trans e
        refine hfr y ?_
        simpa using hy
      · rintro i kk v σ H' hkv ⟨⟨v2, v3, v4, v5, v6, rfl⟩, kp, hfz, as, M, hfas⟩
        have hi : i < q.T.switches.length := by rw [← hkl]; exact (List.getElem?_eq_some_iff.mp hkv).1
        obtain ⟨s1, hs1⟩ : ∃ s1, q.T.switches[i]? = some s1 := ⟨_, List.getElem?_eq_getElem hi⟩
        obtain ⟨a1, ha1⟩ : ∃ a1, as1[i]? = some a1 := ⟨_, List.getElem?_eq_getElem (by omega)⟩
        have ev : v = .ref a1 := by
          unfold swK at hkv
          rw [List.getElem?_map, show (q.T.switches.zip as1)[i]? = some (s1, a1) from List.getElem?_zip_eq_some.mpr ⟨hs1, ha1⟩] at hkv
          injection hkv with hkv
          injection hkv with _ hkv
          exact hkv.symm
        subst ev
        have htup := g1 i s1 a1 hs1 ha1
        have htup' := kp _ _ htup (ntx _ _ htup (fun _ _ _ z => nomatch z)) (fun z => by rw [z, hd1] at htup; cases htup)
        have hsm : s1 ∈ q.T.switches := List.mem_of_getElem? hs1
        have hb := Gd.b63 s1 hsm
        refine ⟨a1, _, rfl, SqT.of htup', rfl, _, _, rfl, _, _, rfl, _, _, rfl, _, _, rfl, rfl, ?_⟩
        refine ⟨_, rfl, _, rfl, _, rfl, _, rfl, fun x2 dx2 nx2 ndx2 hne2 => ?_⟩
        refine ⟨x2, dx2, s1.place, s1.close, s1.open_, s1.turned, rfl, upd_same, fun H4 k4 hx4 => ⟨rfl, ?_⟩⟩
        have s4 : Same H' H4 := Same.made nx2 ndx2 fun y o e n => k4 y o e (by simpa using n)
        have hplen : (q.T.switches.take i).length ≤ 64 := by rw [List.length_take]; omega
        have hmk : (maK (q.T.switches.take i) as).length ≤ 64 := by
          unfold maK
          rw [List.length_map, List.length_zip]; omega
        have hc8 : s1.place / 8 < cs.length := by rw [hcl]; omega
        have hcc : cs[s1.place / 8]? = some cs[s1.place / 8] := List.getElem?_eq_getElem hc8
        have hcol := M.col _ _ hcc
        have M5 := M.more (s := s1) (dx := dx2) s4 nx2 hx4 (fun s' hs' => by
          obtain ⟨j, hj, ej⟩ := List.getElem_of_mem hs'
          have hj' : j < i := by rw [List.length_take] at hj; omega
          rw [List.getElem_take] at ej
          have hpw := List.pairwise_iff_getElem.mp Gd.swp j i (by omega) hi hj'
          rw [ej] at hpw
          have : q.T.switches[i] = s1 := (List.getElem?_eq_some_iff.mp hs1).2
          rw [this] at hpw
          exact hpw) hcc
        have dc : d ≠ cs[s1.place / 8] := fun z => by have := M.dic; simp only at this; rw [z, hcol] at this; cases this
        have xd : x ≠ d := hxd
        have ld : l ≠ d := fun z => by have h1 := M.dic; have h2 := M.lis; simp only at h1 h2; rw [← z, h2] at h1; cases h1
        refine ⟨_, rfl, _, rfl, x, A.M, dx, _, _, rfl, s4 _ _ M.obj, T.cM, T.nM_switch_at, mf_at, _, rfl, d, _, rfl, DPut.k (k := Sum.inl (s1.place : Int)) (s4 _ _ M.dic) (by show (maK (q.T.switches.take i) as).length < sizeLine; omega), ?_⟩
        refine ⟨_, rfl, x, A.M, dx, _, _, rfl, (upd_ne xd).trans (s4 _ _ M.obj), T.cM, T.nM_columns, mf_cols, _, rfl, _, _, rfl, rfl, (by show (0 : Int) < 8 ∧ (8 : Int) < 1073741824; decide), l, cs.map V.ref, ((s1.place / 8 : Nat) : Int), V.ref (cs[s1.place / 8]), rfl, (by show V.int ((s1.place : Int) / 8) = _; rw [Int.natCast_ediv]; rfl), SqL.of ((upd_ne ld).trans (s4 _ _ M.lis)), atI_nat (by rw [List.getElem?_map, hcc]; rfl), .inl ⟨rfl, _, SqL.of ((upd_ne (Ne.symm dc)).trans (s4 _ _ hcol))⟩, _, rfl, cs[s1.place / 8], _, _, rfl, rfl, (upd_ne (Ne.symm dc)).trans (s4 _ _ hcol), ?_, ?_⟩
        · have h1 : (colV (s1.place / 8) (q.T.switches.take i) as).length ≤ 64 := by
            unfold colV colY
            rw [List.length_map]
            refine Nat.le_trans (List.length_filter_le _ _) ?_
            rw [List.length_zip]; omega
          show (colV (s1.place / 8) (q.T.switches.take i) as).length < sizeLine
          omega
        · have hx2 : H x2 = none := by
            cases e : H x2 with
            | none => rfl
            | some o =>
              exfalso
              by_cases z1 : x2 = x
              · have := M.obj; simp only at this; rw [z1, this] at nx2; cases nx2
              · by_cases z2 : x2 = t.d1
                · rw [z2, hfz] at nx2; cases nx2
                · rw [kp _ _ e z1 z2] at nx2; cases nx2
          have hcfr := (hfr cs[s1.place / 8] (by simp))
          refine ⟨⟨_, _, _, _, _, rfl⟩, fun y o e n1 n2 => ?_, ?_, as ++ [x2], ?_, fun y hy => ?_⟩
          · have h4 := s4 _ _ (kp y o e n1 n2)
            have n3 : y ≠ d := fun z => by rw [z, hd0] at e; cases e
            have n4 : y ≠ cs[s1.place / 8] := fun z => by
              rcases hcfr with h | h
              · exact n1 (z.trans h)
              · rw [z, h] at e; cases e
            exact (upd_ne n4).trans ((upd_ne n3).trans h4)
          · exact (upd_ne (Ne.symm (nall hcfr))).trans ((upd_ne (Ne.symm (nall (.inr hd0)))).trans (s4 _ _ hfz))
          · rw [take_snoc hs1]
            exact M5
          · rw [List.mem_append, List.mem_singleton] at hy
            rcases hy with h | h
            · exact hfas y h
            · rw [h]; exact hx2
      · rintro σ H' ⟨⟨v2, v3, v4, v5, v6, rfl⟩, kp, hfz, as, M, hfas⟩
        rw [hkl, List.take_length] at M
        have hall' : ∀ y ∈ (⟨x, dx, d, l, cs, as⟩ : Ma).all, y = x ∨ H y = none := fun y hy => by
          unfold Ma.all at hy
          simp only [List.mem_cons, List.mem_append] at hy
          rcases hy with h | h | h | h | h
          · exact hfr y (by simp [h])
          · exact hfr y (by simp [h])
          · exact hfr y (by simp [h])
          · exact hfr y (by simp [h])
          · exact .inr (hfas y h)
        refine ⟨hfz, k ⟨x, dx, d, l, cs, as⟩ _ rfl (fun y o e n => ?_) (M.keep fun y o e hy => (upd_ne (nall (hall' y hy))).trans e) hall'⟩
        by_cases z : y = t.d1
        · subst z
          rw [upd_same]
          rw [hd1] at e
          exact e
        · exact (upd_ne z).trans (kp y o e (by simpa using n) z)
end
end Br
end
section
set_option Elab.async false
set_option linter.all false
set_option maxRecDepth 100000
set_option maxHeartbeats 1000000
namespace Br
open PySem PySem.Spec PyProof.Rows L2 Xc
open Tilt (Bytes)
open TiltScanCalls (step)
def bn (v : V) : List (Str × V) := [("matrix", v)]
theorem bn_matrix {v : V} : (bn v).lookup ("matrix" : Str) = some v := by kernel_rfl
theorem bn_put {v u : V} : putF "matrix" u (bn v) = bn u := by kernel_rfl
def BnAt (A : Ad) (H : Hp) (b : Addr) (st : Bt.State) (S : List Addr) : Prop := match st with
  | none => S = [] ∧ ∃ dx, H b = some (.ins A.B dx (bn .non))
  | some (T, x) => Bt.Good T ∧ Bt.Low T x ∧ ∃ (m : Ma) (dx : Addr), H b = some (.ins A.B dx (bn (.ref m.m))) ∧ MatAt A H m T.switches x.tick (Bt.seenOf x) ∧ b ∉ m.all ∧ S = m.all
def RS (A : Ad) (H : Hp) (b : Addr) (S : List Addr) (y : Bt.State × Tilt.Ans) (Q : VK) : Prop :=
  ∀ e S' H', Kp (b :: S) H H' → BnAt A H' b y.1 S' → (∀ z ∈ S', z ∈ S ∨ H z = none) → H e = none → H' e = some (.lst ((y.2.code :: y.2.nums).map V.int)) → Q (.ref e) H'
theorem BnAt.keep {A : Ad} {H H' : Hp} {b : Addr} {st : Bt.State} {S : List Addr} (h : BnAt A H b st S) (k : ∀ a o, H a = some o → a ∈ b :: S → H' a = some o) : BnAt A H' b st S := by
  match st, h with
  | none, ⟨hS, dx, hb⟩ => exact ⟨hS, dx, k _ _ hb (by simp)⟩
  | some (T, x), ⟨G, L, m, dx, hb, M, hn, hS⟩ =>
    subst hS
    exact ⟨G, L, m, dx, k _ _ hb (by simp), M.keep fun a o e ha => k a o e (List.mem_cons_of_mem _ ha), hn, rfl⟩
theorem RS.new {A : Ad} {H : Hp} {b : Addr} {S : List Addr} {y : Bt.State × Tilt.Ans} {Q : VK} (R : RS A H b S y Q) (B : BnAt A H b y.1 S) {e : Addr} (he : H e = none) {l : List V} (hl : l = (y.2.code :: y.2.nums).map V.int) : Q (.ref e) (upd H e (.lst l)) := by
  have s0 : Same H (upd H e (.lst l)) := Kp.same.mp (Kp.new he)
  exact R e S _ (fun a o q _ => s0 a o q) (B.keep fun a o q _ => s0 a o q) (fun z hz => .inl hz) he (by rw [upd_same, hl])
def spBnInit (A : Ad) : Sp := fun vs H Q _ => ∃ (x dx : Addr), vs = [.ref x] ∧ H x = some (.ins A.B dx []) ∧ ∀ H', Kp [x] H H' → H' x = some (.ins A.B dx (bn .non)) → Q .non H'
def refOf (T : Tilt.Table) (p : Nat) : Int := if 63 < p then -1 else if T.hasSwitch p = true then 0 else -4
def spRefusal (A : Ad) : Sp := fun vs H Q _ => ∃ (b : Addr) (T : Tilt.Table) (x : Tilt.Scan) (S : List Addr) (p : Nat), vs = [.ref b, .int p] ∧ BnAt A H b (some (T, x)) S ∧ Q (.int (refOf T p)) H
def spSoon (A : Ad) : Sp := fun vs H Q _ => ∃ (b : Addr) (T : Tilt.Table) (x : Tilt.Scan) (S : List Addr) (p : Nat), vs = [.ref b, .int p] ∧ BnAt A H b (some (T, x)) S ∧ RS A H b S (step (some (T, x)) (.soon p)) Q
def spStands (A : Ad) : Sp := fun vs H Q _ => ∃ (b : Addr) (T : Tilt.Table) (x : Tilt.Scan) (S : List Addr) (p : Nat), vs = [.ref b, .int p] ∧ BnAt A H b (some (T, x)) S ∧ RS A H b S (step (some (T, x)) (.stands p)) Q
def spTick (A : Ad) : Sp := fun vs H Q _ => ∃ (b : Addr) (T : Tilt.Table) (x : Tilt.Scan) (S : List Addr), vs = [.ref b] ∧ BnAt A H b (some (T, x)) S ∧ RS A H b S (step (some (T, x)) .tick) Q
abbrev sBnInit : Stmt := inClass (top 77) 0
abbrev sBegin : Stmt := inClass (top 77) 1
abbrev sRows : Stmt := inClass (top 77) 2
abbrev sRefusal : Stmt := inClass (top 77) 3
abbrev sSoon : Stmt := inClass (top 77) 4
abbrev sStands : Stmt := inClass (top 77) 5
abbrev sTick : Stmt := inClass (top 77) 6
theorem has_find {T : Tilt.Table} {p : Nat} : T.hasSwitch p = (T.switches.find? fun s => s.place == p).isSome := by
  unfold Tilt.Table.hasSwitch
  generalize T.switches = l
  induction l with
  | nil => rfl
  | cons s r ih =>
    rw [List.any_cons, List.find?_cons, ih]
    cases s.place == p <;> rfl
theorem soon_far {T : Tilt.Table} {x : Tilt.Scan} {p : Nat} (h : 63 < p) : TiltScanCalls.step (some (T, x)) (.soon p) = (some (T, x), Tilt.says (-1)) := by
  show (some (T, x), if Tilt.PLACES ≤ p then _ else _) = _
  rw [if_pos (show Tilt.PLACES ≤ p from h)]
theorem soon_no {T : Tilt.Table} {x : Tilt.Scan} {p : Nat} (h : ¬ 63 < p) (hn : T.soon x p = none) : TiltScanCalls.step (some (T, x)) (.soon p) = (some (T, x), Tilt.says (-4)) := by
  show (some (T, x), if Tilt.PLACES ≤ p then _ else (match T.soon x p with | some n => Tilt.tells [n] | none => Tilt.says (-4))) = _
  rw [if_neg (show ¬ Tilt.PLACES ≤ p from fun z => h z), hn]
theorem soon_yes {T : Tilt.Table} {x : Tilt.Scan} {p n : Nat} (h : ¬ 63 < p) (hn : T.soon x p = some n) : TiltScanCalls.step (some (T, x)) (.soon p) = (some (T, x), Tilt.tells [n]) := by
  show (some (T, x), if Tilt.PLACES ≤ p then _ else (match T.soon x p with | some n => Tilt.tells [n] | none => Tilt.says (-4))) = _
  rw [if_neg (show ¬ Tilt.PLACES ≤ p from fun z => h z), hn]
theorem stands_far {T : Tilt.Table} {x : Tilt.Scan} {p : Nat} (h : 63 < p) : TiltScanCalls.step (some (T, x)) (.stands p) = (some (T, x), Tilt.says (-1)) := by
  show (some (T, x), if Tilt.PLACES ≤ p then _ else _) = _
  rw [if_pos (show Tilt.PLACES ≤ p from h)]
theorem stands_no {T : Tilt.Table} {x : Tilt.Scan} {p : Nat} (h : ¬ 63 < p) (hn : ¬ T.hasSwitch p = true) : TiltScanCalls.step (some (T, x)) (.stands p) = (some (T, x), Tilt.says (-4)) := by
  show (some (T, x), if Tilt.PLACES ≤ p then _ else if T.hasSwitch p = false then _ else _) = _
  rw [if_neg (show ¬ Tilt.PLACES ≤ p from fun z => h z), if_pos (eq_false_of_ne_true hn)]
theorem stands_yes {T : Tilt.Table} {x : Tilt.Scan} {p : Nat} (h : ¬ 63 < p) (hn : T.hasSwitch p = true) : TiltScanCalls.step (some (T, x)) (.stands p) = (some (T, x), Tilt.tells [(x.get p).closed.toNat, (x.get p).seen]) := by
  show (some (T, x), if Tilt.PLACES ≤ p then _ else if T.hasSwitch p = false then _ else _) = _
  rw [if_neg (show ¬ Tilt.PLACES ≤ p from fun z => h z), if_neg (by rw [hn]; decide)]
theorem seen_get {x : Tilt.Scan} {s : Tilt.Switch} {p : Nat} (h : s.place = p) : Bt.seenOf x s = x.get p := by subst h; rfl
section
variable {P : Program} {w : World} {K : PySem.W.Frag} {mg : Str → Option Value} {base : Heap} {A : Ad} {f : Addr} {fd : FuncData}
theorem scBnInit : FnScope ["self"] ["self"] (defScope sBnInit) := ⟨rfl, rfl, rfl, by decide +kernel, rfl, by decide +kernel, by decide +kernel⟩
theorem ok_bninit (T : Tx K mg A) (G : Fun K "__init__" "Bench.__init__" sBnInit f fd) : FnOk P w K mg base CX0 1 f fd ["self"] (spBnInit A) := by
  refine G.ok scBnInit (fun vs H Q E h => ?_) (fun cdv Ar outer s H vs Q E hr h => ?_)
  · obtain ⟨x, dx, rfl, _⟩ := h
    rfl
  · obtain ⟨x, dx, rfl, hx, k⟩ := h
    refine ⟨_, pss_one (ps_fld (pv 0) pe_non rfl), ?_⟩
    refine ⟨_, rfl, x, A.B, dx, _, rfl, hx, T.cB, T.nB_matrix, (by show 0 < 1000; decide), ?_⟩
    exact k _ (Kp.upd (by simp)) (upd_same.trans (congrArg (fun q => some (HO.ins A.B dx q)) (by kernel_rfl)))
theorem scRefusal : FnScope ["self", "place"] ["self", "place"] (defScope sRefusal) := ⟨rfl, rfl, rfl, by decide +kernel, rfl, by decide +kernel, by decide +kernel⟩
theorem ok_refusal (T : Tx K mg A) (G : Fun K "refusal" "Bench.refusal" sRefusal f fd) : FnOk P w K mg base CX0 1 f fd ["self", "place"] (spRefusal A) := by
  refine G.ok scRefusal (fun vs H Q E h => ?_) (fun cdv Ar outer s H vs Q E hr h => ?_)
  · obtain ⟨b, t, x, S, p, rfl, _⟩ := h
    rfl
  · obtain ⟨b, t, x, S, p, rfl, B, k⟩ := h
    have hu := hu_of hr
    obtain ⟨Gd, Lw, m, dx, hb, M, hn, hS⟩ := id B
    refine ⟨_, pss_cons (ps_if (pt_cmpR op_gt (pv 1) (pe_gv rfl T.gLAST_PLACE) (nomark _)) (pss_one (ps_ret (pe_gv rfl T.gNO_SUCH_PLACE))) pss_nil)
      (pss_one (ps_ret (pe_ifExp (pt_cmp (pc_din hu (pv 1) (pe_fld (pe_fld (pv 0) rfl) rfl))) (pe_gv rfl T.gDONE) (pe_gv rfl T.gNO_SWITCH)))), ?_⟩
    refine ⟨_, rfl, _, _, rfl, rfl, _, rfl, ?_⟩
    have e1 : decide ((63 : Int) < (p : Int)) = decide (63 < p) := by rw [decide_eq_decide]; omega
    rw [e1]
    unfold refOf at k
    refine ite2 (fun c => ?_) (fun c => ?_)
    · rw [if_pos (of_decide_eq_true c)] at k
      exact k
    · rw [if_neg fun z => c (decide_eq_true z)] at k
      refine ⟨_, rfl, _, rfl, b, A.B, dx, _, _, rfl, hb, T.cB, T.nB_matrix, bn_matrix, m.m, A.M, m.dx, _, _, rfl, M.obj, T.cM, T.nM_switch_at, mf_at, m.d, _, rfl, DGet.k (k := Sum.inl (p : Int)) M.dic, _, rfl, ?_⟩
      have e2 : (valV (maK t.switches m.as) (.inl (p : Int))).isSome = t.hasSwitch p := by
        rw [has_find]
        rcases valV_ma (q := p) t.switches m.as M.len with ⟨h1, h2⟩ | ⟨s', a', h1, h2, h3, h4⟩
        · rw [h1, h2]; rfl
        · rw [h2, h4]; rfl
      rw [e2]
      refine ite2 (fun c2 => ?_) (fun c2 => ?_)
      · rw [if_pos c2] at k; exact k
      · rw [if_neg c2] at k; exact k
theorem scTick : FnScope ["self"] ["self"] (defScope sTick) := ⟨rfl, rfl, rfl, by decide +kernel, rfl, by decide +kernel, by decide +kernel⟩
theorem ok_tick (T : Tx K mg A) (G : Fun K "tick" "Bench.tick" sTick f fd) : FnOk P w K mg base CX0 1 f fd ["self"] (spTick A) := by
  refine G.ok scTick (fun vs H Q E h => ?_) (fun cdv Ar outer s H vs Q E hr h => ?_)
  · obtain ⟨b, t, x, S, rfl, _⟩ := h
    rfl
  · obtain ⟨b, t, x, S, rfl, B, R⟩ := h
    obtain ⟨Gd, Lw, m, dx, hb, M, hn, hS⟩ := id B
    refine ⟨_, pss_one (ps_ret (pe_lst (pa_cons (pe_gv rfl T.gDONE) (pa_cons (pe_fld (pe_fld (pv 0) rfl) rfl) pa_nil)))), ?_⟩
    refine ⟨_, rfl, b, A.B, dx, _, _, rfl, hb, T.cB, T.nB_matrix, bn_matrix, m.m, A.M, m.dx, _, _, rfl, M.obj, T.cM, T.nM_ticks, mf_ticks, (by show 2 ≤ sizeLine; decide), fun e he => ?_⟩
    exact R.new B he rfl
theorem scSoon : FnScope ["self", "place", "refusal"] ["self", "place"] (defScope sSoon) := ⟨rfl, rfl, rfl, by decide +kernel, rfl, by decide +kernel, by decide +kernel⟩
theorem ok_soon (T : Tx K mg A) (mRf : Mt P w K mg base CX0 A.B "refusal" 1 ["self", "place"] (spRefusal A)) (mTold : Mt P w K mg base CX0 A.M "ticks_until_told" 2 ["self", "switch"] (spTold A)) (G : Fun K "soon" "Bench.soon" sSoon f fd) : FnOk P w K mg base CX0 3 f fd ["self", "place"] (spSoon A) := by
  refine G.ok scSoon (fun vs H Q E h => ?_) (fun cdv Ar outer s H vs Q E hr h => ?_)
  · obtain ⟨b, t, x, S, p, rfl, _⟩ := h
    rfl
  · obtain ⟨b, t, x, S, p, rfl, B, R⟩ := h
    have hu := hu_of hr
    obtain ⟨Gd, Lw, m, dx, hb, M, hn, hS⟩ := id B
    refine ⟨_, pss_cons (ps_set (i := 2) scSoon.nd rfl (Or.inl rfl) (pe_mt (pv 0) T.cB mRf hr (by decide) pass0 (pa_cons (pv 1) pa_nil)))
      (pss_cons (ps_if (pt_cmpR op_ne (pv 2) (pe_gv rfl T.gDONE) (nomark _)) (pss_one (ps_ret (pe_lst (pa_cons (pv 2) pa_nil)))) pss_nil)
      (pss_one (ps_ret (pe_lst (pa_cons (pe_gv rfl T.gDONE) (pa_cons (pe_mt (pe_fld (pv 0) rfl) T.cM mTold hr (by decide) pass0 (pa_cons (pe_dget hu (pe_fld (pe_fld (pv 0) rfl) rfl) (pv 1) (fun _ _ => rfl)) pa_nil)) pa_nil)))))), ?_⟩
    refine ⟨_, rfl, b, dx, _, rfl, hb, (by kernel_rfl), _, rfl, b, t, x, S, p, rfl, B, _, rfl, rfl, _, rfl, ?_⟩
    have ed : (!decide (V.int (refOf t p) = V.int 0)) = decide (¬ refOf t p = 0) := by rw [dInt, decide_not]
    rw [ed]
    refine ite2 (fun c => ?_) (fun c => ?_)
    · have c' := of_decide_eq_true c
      refine ⟨_, rfl, (by show 1 ≤ sizeLine; decide), fun e he => R.new B he ?_⟩
      unfold refOf at c' ⊢
      by_cases h1 : 63 < p
      · rw [if_pos h1, soon_far h1]; rfl
      · rw [if_neg h1] at c' ⊢
        by_cases h2 : t.hasSwitch p = true
        · rw [if_pos h2] at c'; exact absurd rfl c'
        · rw [if_neg h2]
          have : t.soon x p = none := by
            unfold Tilt.Table.soon Tilt.Table.switchAt
            have h3 := has_find (T := t) (p := p)
            rw [eq_false_of_ne_true h2] at h3
            cases q : t.switches.find? (fun s => s.place == p) with
            | none => rfl
            | some v => rw [q] at h3; cases h3
          rw [soon_no h1 this]; rfl
    · have c' : refOf t p = 0 := by
        by_cases z : refOf t p = 0
        · exact z
        · exact absurd (decide_eq_true z) c
      unfold refOf at c'
      by_cases h1 : 63 < p
      · rw [if_pos h1] at c'; cases c'
      · rw [if_neg h1] at c'
        by_cases h2 : t.hasSwitch p = true
        · rcases valV_ma (q := p) t.switches m.as M.len with ⟨h3, h4⟩ | ⟨s', a', h3, h4, h5, h6⟩
          · rw [has_find, h4] at h2; cases h2
          · have hv : some (V.ref a') = valV (maK t.switches m.as) (.inl (p : Int)) := h6.symm
            refine ⟨_, rfl, b, A.B, dx, _, _, rfl, hb, T.cB, T.nB_matrix, bn_matrix, m.m, m.dx, _, rfl, M.obj, (by kernel_rfl), _, rfl, b, A.B, dx, _, _, rfl, hb, T.cB, T.nB_matrix, bn_matrix, m.m, A.M, m.dx, _, _, rfl, M.obj, T.cM, T.nM_switch_at, mf_at, _, rfl, m.d, .ref a', rfl, (by rw [hv]; exact DGet.k (k := Sum.inl (p : Int)) M.dic), ?_⟩
            refine ⟨m, t.switches, x.tick, Bt.seenOf x, s', a', rfl, M, h3, (by show 2 ≤ sizeLine; decide), fun e he => R.new B he ?_⟩
            have hs' : s' ∈ t.switches := (List.of_mem_zip h3).1
            obtain ⟨q1, q2⟩ := Bt.soon_eq Gd Lw hs'
            rw [soon_yes h1 (by rw [← h5]; exact q1)]
            exact congrArg (fun z => [V.int 0, V.int z]) q2.symm
        · rw [if_neg h2] at c'; cases c'
theorem scStands : FnScope ["self", "place", "refusal", "switch"] ["self", "place"] (defScope sStands) := ⟨rfl, rfl, rfl, by decide +kernel, rfl, by decide +kernel, by decide +kernel⟩
theorem ok_stands (T : Tx K mg A) (mRf : Mt P w K mg base CX0 A.B "refusal" 1 ["self", "place"] (spRefusal A)) (G : Fun K "stands" "Bench.stands" sStands f fd) : FnOk P w K mg base CX0 2 f fd ["self", "place"] (spStands A) := by
  refine G.ok scStands (fun vs H Q E h => ?_) (fun cdv Ar outer s H vs Q E hr h => ?_)
  · obtain ⟨b, t, x, S, p, rfl, _⟩ := h
    rfl
  · obtain ⟨b, t, x, S, p, rfl, B, R⟩ := h
    have hu := hu_of hr
    obtain ⟨Gd, Lw, m, dx, hb, M, hn, hS⟩ := id B
    refine ⟨_, pss_cons (ps_set (i := 2) scStands.nd rfl (Or.inl rfl) (pe_mt (pv 0) T.cB mRf hr (by decide) pass0 (pa_cons (pv 1) pa_nil)))
      (pss_cons (ps_if (pt_cmpR op_ne (pv 2) (pe_gv rfl T.gDONE) (nomark _)) (pss_one (ps_ret (pe_lst (pa_cons (pv 2) pa_nil)))) pss_nil)
      (pss_cons (ps_set (i := 3) scStands.nd rfl (Or.inl rfl) (pe_dget hu (pe_fld (pe_fld (pv 0) rfl) rfl) (pv 1) (fun _ _ => rfl)))
      (pss_one (ps_ret (pe_lst (pa_cons (pe_gv rfl T.gDONE) (pa_cons (pe_fld (pv 3) rfl) (pa_cons (pe_fld (pv 3) rfl) pa_nil)))))))), ?_⟩
    refine ⟨_, rfl, b, dx, _, rfl, hb, (by kernel_rfl), _, rfl, b, t, x, S, p, rfl, B, _, rfl, rfl, _, rfl, ?_⟩
    have ed : (!decide (V.int (refOf t p) = V.int 0)) = decide (¬ refOf t p = 0) := by rw [dInt, decide_not]
    rw [ed]
    refine ite2 (fun c => ?_) (fun c => ?_)
    · have c' := of_decide_eq_true c
      refine ⟨_, rfl, (by show 1 ≤ sizeLine; decide), fun e he => R.new B he ?_⟩
      unfold refOf at c' ⊢
      by_cases h1 : 63 < p
      · rw [if_pos h1, stands_far h1]; rfl
      · rw [if_neg h1] at c' ⊢
        by_cases h2 : t.hasSwitch p = true
        · rw [if_pos h2] at c'; exact absurd rfl c'
        · rw [if_neg h2, stands_no h1 h2]; rfl
    · have c' : refOf t p = 0 := by
        by_cases z : refOf t p = 0
        · exact z
        · exact absurd (decide_eq_true z) c
      unfold refOf at c'
      by_cases h1 : 63 < p
      · rw [if_pos h1] at c'; cases c'
      · rw [if_neg h1] at c'
        by_cases h2 : t.hasSwitch p = true
        · rcases valV_ma (q := p) t.switches m.as M.len with ⟨h3, h4⟩ | ⟨s', a', h3, h4, h5, h6⟩
          · rw [has_find, h4] at h2; cases h2
          · have hv : some (V.ref a') = valV (maK t.switches m.as) (.inl (p : Int)) := h6.symm
            obtain ⟨dx', ha'⟩ := M.sws _ h3
            refine ⟨_, rfl, b, A.B, dx, _, _, rfl, hb, T.cB, T.nB_matrix, bn_matrix, m.m, A.M, m.dx, _, _, rfl, M.obj, T.cM, T.nM_switch_at, mf_at, _, rfl, m.d, .ref a', rfl, (by rw [hv]; exact DGet.k (k := Sum.inl (p : Int)) M.dic), ?_⟩
            refine ⟨_, rfl, a', A.S, dx', _, _, rfl, ha', T.cS, T.nS_taken, sf_taken, _, rfl, a', A.S, dx', _, _, rfl, ha', T.cS, T.nS_seen, sf_seen, (by show 3 ≤ sizeLine; decide), fun e he => R.new B he ?_⟩
            rw [stands_yes h1 h2, ← seen_get (x := x) h5]
            show [V.int 0, V.int (cl01 (Bt.seenOf x s').closed), V.int (Bt.seenOf x s').seen] = _
            cases (Bt.seenOf x s').closed <;> rfl
        · rw [if_neg h2] at c'; cases c'
end
end Br
end
section
set_option Elab.async false
set_option linter.all false
set_option maxRecDepth 100000
set_option maxHeartbeats 1000000
namespace Br
open PySem PySem.Spec PyProof.Rows L2 Xc
open Tilt (Bytes)
theorem MatAt.congr {A : Ad} {H : Hp} {b : Ma} {sw : List Tilt.Switch} {tick : Nat} {z z' : Tilt.Switch → Tilt.Seen} (M : MatAt A H b sw tick z) (h : ∀ s ∈ sw, z s = z' s) : MatAt A H b sw tick z' :=
  ⟨M.obj, M.dic, M.lis, M.n8, M.cnd, M.col, M.len, M.nd, fun y hy => by rw [← h _ (List.of_mem_zip hy).1]; exact M.sws y hy⟩
theorem MatAt.some {A : Ad} {H : Hp} {b : Ma} {sw : List Tilt.Switch} {tick : Nat} {z : Tilt.Switch → Tilt.Seen} (M : MatAt A H b sw tick z) : ∀ y ∈ b.all, ∃ o, H y = some o := fun y hy => by
  unfold Ma.all at hy
  simp only [List.mem_cons, List.mem_append] at hy
  rcases hy with h | h | h | h | h
  · rw [h]; exact ⟨_, M.obj⟩
  · rw [h]; exact ⟨_, M.dic⟩
  · rw [h]; exact ⟨_, M.lis⟩
  · obtain ⟨i, hi, e⟩ := List.getElem_of_mem h
    exact ⟨_, M.col i y (by rw [List.getElem?_eq_getElem hi, e])⟩
  · obtain ⟨s', d', z', q⟩ := M.ins h
    exact ⟨_, q⟩
theorem BnAt.obj {A : Ad} {H : Hp} {b : Addr} {st : Bt.State} {S : List Addr} (h : BnAt A H b st S) : ∃ dx v, H b = some (.ins A.B dx (bn v)) := by
  match st, h with
  | none, ⟨hS, dx, hb⟩ => exact ⟨dx, _, hb⟩
  | some (T, x), ⟨G, L, m, dx, hb, M, hn, hS⟩ => exact ⟨dx, _, hb⟩
def spBegin (A : Ad) : Sp := fun vs H Q _ => ∃ (b a : Addr) (st : Bt.State) (S : List Addr) (bs : Bytes), vs = [.ref b, .ref a] ∧ H a = some (.lst (bs.map bV)) ∧ BnAt A H b st S ∧ RS A H b S (TiltScanCalls.step st (.begin_ bs)) Q
def spRows (A : Ad) : Sp := fun vs H Q _ => ∃ (b a : Addr) (T : Tilt.Table) (x : Tilt.Scan) (S : List Addr) (bs : Bytes), vs = [.ref b, .ref a] ∧ H a = some (.lst (bs.map bV)) ∧ BnAt A H b (some (T, x)) S ∧ bs.length ≤ 30000 ∧ RS A H b S (TiltScanCalls.step (some (T, x)) (.rows bs)) Q
theorem begin_long {st : Bt.State} {bs : Bytes} (h : 16384 < bs.length) : TiltScanCalls.step st (.begin_ bs) = (st, Tilt.says (-2)) := by
  show (if Tilt.TEXT < bs.length then _ else _) = _
  rw [if_pos (show Tilt.TEXT < bs.length from h)]
theorem begin_bad {st : Bt.State} {bs : Bytes} {f : Tilt.Fault} (h : ¬ 16384 < bs.length) (hr : Bt.readM bs = .error f) : TiltScanCalls.step st (.begin_ bs) = (st, Tilt.faulty f) := by
  have e : Tilt.readTable bs = .error f := by rw [Bt.read_eq, hr]; rfl
  show (if Tilt.TEXT < bs.length then _ else (match Tilt.readTable bs with | .error e => (st, Tilt.faulty e) | .ok T => (some (T, Tilt.begun), Tilt.says 0))) = _
  rw [if_neg (show ¬ Tilt.TEXT < bs.length from h), e]
theorem begin_ok {st : Bt.State} {bs : Bytes} {q : Bt.PT} (h : ¬ 16384 < bs.length) (hr : Bt.readM bs = .ok q) : TiltScanCalls.step st (.begin_ bs) = (some (q.T, Tilt.begun), Tilt.says 0) := by
  have e : Tilt.readTable bs = .ok q.T := by rw [Bt.read_eq, hr]; rfl
  show (if Tilt.TEXT < bs.length then _ else (match Tilt.readTable bs with | .error e => (st, Tilt.faulty e) | .ok T => (some (T, Tilt.begun), Tilt.says 0))) = _
  rw [if_neg (show ¬ Tilt.TEXT < bs.length from h), e]
theorem rows_step {T : Tilt.Table} {x : Tilt.Scan} {bs : Bytes} (h : bs.length ≤ 30000) : TiltScanCalls.step (some (T, x)) (.rows bs) = (some (T, (T.rowsFrom 0 x (Tilt.nat8 bs)).1), Tilt.tells (TiltScanCalls.eventNums (T.rowsFrom 0 x (Tilt.nat8 bs)).2)) := by
  show (if Tilt.ROWS < bs.length then _ else _) = _
  rw [if_neg (show ¬ Tilt.ROWS < bs.length from by show ¬ 65536 < bs.length; omega)]
  rfl
theorem row_len {T : Tilt.Table} (G : Bt.Good T) (x : Tilt.Scan) (r : Nat) : (T.row x r).2.length ≤ 64 := by
  rw [Bt.row_events G]
  refine Nat.le_trans (rowEv_len _) (Nat.le_trans (List.length_filter_le _ _) (good_len G))
theorem rows_len {T : Tilt.Table} (G : Bt.Good T) : ∀ (l : List Nat) (i : Nat) (x : Tilt.Scan), (T.rowsFrom i x l).2.length ≤ 64 * l.length
  | [], _, _ => Nat.zero_le _
  | r :: l, i, x => by
    show ((T.row x r).2.map (fun e => (i, e)) ++ (T.rowsFrom (i + 1) (T.row x r).1 l).2).length ≤ _
    rw [List.length_append, List.length_map, List.length_cons]
    have h1 := row_len G x r
    have h2 := rows_len G l (i + 1) (T.row x r).1
    omega
theorem pe_xfldN {X : Cx} {mg : Str → Option Value} {a C dx : Addr} {oe : Obj} {e : Expr} {te : TE} {f : Str} {pos : Pos} {vs : Array Value} (T : Flt X.K mg C) (hc : oe.cls = .ref C) (hd : oe.dict = some dx) (hdt : oe.data = .fields vs) (hf : f = "kind" ∨ f = "place") (he : PE (Cx.nox (X.hnd a oe)) e te) (hb : attributeBase e f X.env (eval e X.env) = eval e X.env) :
    PE (Cx.nox (X.hnd a oe)) (.Attribute e f pos) (tXfld a dx te f) := pe_xfld (X := X.nox) T hc hd hdt hf he hb
section
variable {P : Program} {w : World} {K : PySem.W.Frag} {mg : Str → Option Value} {base : Heap} {A : Ad} {f : Addr} {fd : FuncData}
theorem scBegin : FnScope ["self", "text", "table", "fault"] ["self", "text"] (defScope sBegin) := ⟨rfl, rfl, rfl, by decide +kernel, rfl, by decide +kernel, by decide +kernel⟩
theorem ok_begin (T : Tx K mg A) (fTab : Fn P w K mg base (CXF P w A.F) "read_table" 9 ["text"] [] (spTable A)) (ckM : Ck P w K mg base CX0 "Matrix" A.M 3 ["self", "table"] (spMaInit A)) (G : Fun K "begin" "Bench.begin" sBegin f fd) : FnOk P w K mg base CX0 10 f fd ["self", "text"] (spBegin A) := by
  refine G.ok0 scBegin (fun vs H Q E h => ?_) (fun cdv Ar outer s H vs Q E hr h => ?_)
  · obtain ⟨b, a, st, S, bs, rfl, _⟩ := h
    rfl
  · obtain ⟨b, a, st, S, bs, rfl, ha, B, R⟩ := h
    refine ⟨_, pss0_cons (PS.at0 (ps_if (pt_cmpR op_gt (pe_callB call_len_seq rfl T.b_len PySem.boot_len (pa_cons (pv 1) pa_nil)) (pe_gv rfl T.gMOST_BYTES) (nomark _)) (pss_one (ps_ret (pe_lst (pa_cons (pe_gv rfl T.gTOO_LONG) pa_nil)))) pss_nil))
      (pss0_cons (ps_try (C := A.F) (i := 3) ⟨rfl, rfl, rfl⟩ T.flt rfl scBegin.nd rfl rfl
        (fun E => pss_one (ps_set (i := 2) scBegin.nd rfl (Or.inl rfl) (pe_fn fTab hr (by decide) rfl (passK rfl) (pa_cons (pv 1) pa_nil))))
        (fun ax dx oe vs hc hd hdt => pss_one (ps_ret (pe_lst (pa_cons (pe_gv rfl T.gFAULTY) (pa_cons (pe_xfldN T.flt hc hd hdt (.inl rfl) (pv 3) rfl) (pa_cons (pe_xfldN T.flt hc hd hdt (.inr rfl) (pv 3) rfl) pa_nil)))))))
      (PSs.at0 (pss_cons (ps_fld (pv 0) (pe_ck ckM hr (by decide) rfl pass0 (pa_cons (pv 2) pa_nil)) rfl) (pss_one (ps_ret (pe_lst (pa_cons (pe_gv rfl T.gDONE) pa_nil))))))), ?_⟩
    refine ⟨_, rfl, a, _, rfl, .inl (SqL.of ha), _, _, rfl, rfl, _, rfl, ?_⟩
    have e1 : decide ((16384 : Int) < (((bs.map bV).length : Nat) : Int)) = decide (16384 < bs.length) := by rw [decide_eq_decide, List.length_map]; omega
    rw [e1]
    refine ite2 (fun c => ?_) (fun c => ?_)
    · rw [begin_long (of_decide_eq_true c)] at R
      exact ⟨(by show 1 ≤ sizeLine; decide), fun e he => R.new B he rfl⟩
    · have c' : ¬ 16384 < bs.length := fun z => c (decide_eq_true z)
      refine ⟨_, rfl, a, bs, rfl, ha, by omega, ?_⟩
      cases hq : Bt.readM bs with
      | error ft =>
        rw [begin_bad c' hq] at R
        intro dx H1 k1 hx
        have s1 : Same H H1 := Kp.same.mp k1
        refine ⟨dx, rfl, fun ax hax => ?_⟩
        refine ⟨_, rfl, _, _, rfl, hx, (show _ = some (V.int ft.kind) by kernel_rfl), _, rfl, _, _, rfl, hx, (show _ = some (V.int ft.place) by kernel_rfl), (by show 3 ≤ sizeLine; decide), fun e he => ?_⟩
        have s2 : Same H (upd H1 e (.lst [.int (-6), .int ft.kind, .int ft.place])) := s1.trans (Kp.same.mp (Kp.new he))
        exact R e S _ (fun y o q _ => s2 y o q) (B.keep fun y o q _ => s2 y o q) (fun z hz => .inl hz) (s1.free he) upd_same
      | ok q =>
        rw [begin_ok c' hq] at R
        rintro v H1 k1 ⟨tb, rfl, TA⟩
        have s1 : Same H H1 := Kp.same.mp k1
        have Gd := (Bt.readM_rep hq).good
        refine ⟨_, rfl, fun x dx nx ndx hne => ?_⟩
        have s2 : Same H1 (upd (upd H1 dx (.own x)) x (.ins A.M dx [])) := (Kp.same.mp (Kp.new ndx)).trans (Kp.same.mp (Kp.new (by rw [upd_ne (Ne.symm hne)]; exact nx)))
        refine ⟨x, dx, tb, q, rfl, upd_same, TA.keep (Kp.same.mpr s2) (by simp), Gd, fun m H2 hm k2 M2 fr2 => ⟨rfl, ?_⟩⟩
        have s3 : Same H H2 := s1.trans (Same.made nx ndx fun y o e n => k2 y o e (by simpa using n))
        obtain ⟨dxb, vb, hb⟩ := B.obj
        have fr3 : ∀ y ∈ m.all, H1 y = none := fun y hy => by
          rcases fr2 y hy with z | z
          · rw [z]; exact nx
          · exact s2.free z
        have hbn : b ∉ m.all := fun z => by
          have := fr3 b z
          rw [s1 _ _ hb] at this; cases this
        refine ⟨_, rfl, b, A.B, dxb, _, rfl, s3 _ _ hb, T.cB, T.nB_matrix, (by show 1 < 1000; decide), ?_⟩
        rw [bn_put]
        refine ⟨(by show 1 ≤ sizeLine; decide), fun e he => ?_⟩
        have heb : b ≠ e := fun z => by rw [← z, upd_same] at he; cases he
        have he2 : H2 e = none := by rw [upd_ne (Ne.symm heb)] at he; exact he
        have up : ∀ y o, H2 y = some o → y ≠ b → upd (upd H2 b (.ins A.B dxb (bn (.ref x)))) e (.lst [.int 0]) y = some o := fun y o h n => by
          rw [upd_ne (ne_of_none h he2), upd_ne n]; exact h
        refine R e m.all _ (fun y o h n => ?_) ⟨Gd, Bt.Low.begun Gd, m, dxb, ?_, ?_, hbn, rfl⟩ (fun z hz => .inr (s1.free (fr3 z hz))) (s3.free he2) upd_same
        · rw [List.mem_cons, not_or] at n
          exact up _ _ (s3 _ _ h) n.1
        · rw [upd_ne heb, upd_same, hm]
        · refine MatAt.congr (z := z0) (M2.keep fun y o h hy => up y o h fun z => hbn (z ▸ hy)) fun s' hs' => ?_
          exact (Bt.begun_seen Gd hs').symm
theorem scRows : FnScope ["self", "given", "told", "number", "row", "event"] ["self", "given"] (defScope sRows) := ⟨rfl, rfl, rfl, by decide +kernel, rfl, by decide +kernel, by decide +kernel⟩
theorem ok_rows (T : Tx K mg A) (mRow : Mt P w K mg base CX0 A.M "take_row" 3 ["self", "row"] (spRow A)) (G : Fun K "rows" "Bench.rows" sRows f fd) : FnOk P w K mg base CX0 4 f fd ["self", "given"] (spRows A) := by
  refine G.ok scRows (fun vs H Q E h => ?_) (fun cdv Ar outer s H vs Q E hr h => ?_)
  · obtain ⟨b, a, t, x, S, bs, rfl, _⟩ := h
    rfl
  · obtain ⟨b, a, t, x, S, bs, rfl, ha, B, hlen, R⟩ := h
    rw [rows_step hlen] at R
    obtain ⟨Gd, Lw, m, dx, hb, M, hn, hS⟩ := id B
    refine ⟨_, pss_cons (ps_if (pt_cmpR op_gt (pe_callB call_len_seq rfl T.b_len PySem.boot_len (pa_cons (pv 1) pa_nil)) (pe_gv rfl T.gMOST_ROWS) (nomark _)) (pss_one (ps_ret (pe_lst (pa_cons (pe_gv rfl T.gTOO_LONG) pa_nil)))) pss_nil)
      (pss_cons (ps_set (i := 2) scRows.nd rfl (Or.inl rfl) (pe_lst pa_nil))
      (pss_cons (ps_for PassesOwn.never rfl (pi_enum rfl T.b_enumerate (pa_cons (pv 1) pa_nil)) (pg_tup rfl (pgs_cons (pg_name (i := 3) scRows.nd rfl (Or.inl rfl)) (pgs_cons (pg_name (i := 4) scRows.nd rfl (Or.inl rfl)) pgs_nil)))
        (pss_one (ps_for PassesOwn.never rfl (pi_list (pe_mt (pe_fld (pv 0) rfl) T.cM mRow hr (by decide) pass0 (pa_cons (pv 4) pa_nil))) (pg_name (i := 5) scRows.nd rfl (Or.inl rfl))
          (pss_cons (ps_expr (pe_bm PySem.F.plainAttrs_list PySem.F.slot_list_append PySem.F.type_list_append mt_append (pv 2) (pa_cons (pv 3) pa_nil)))
          (pss_one (ps_expr (pe_bm PySem.F.plainAttrs_list PySem.F.slot_list_append PySem.F.type_list_append mt_append (pv 2) (pa_cons (pv 5) pa_nil))))))))
      (pss_one (ps_ret (pe_op op_cat (pe_lst (pa_cons (pe_gv rfl T.gDONE) (pa_cons (pe_op op_fdiv (pe_callB call_len_seq rfl T.b_len PySem.boot_len (pa_cons (pv 2) pa_nil)) pe_int) pa_nil))) (pv 2)))))), ?_⟩
    refine ⟨_, rfl, a, _, rfl, .inl (SqL.of ha), _, _, rfl, rfl, _, rfl, ?_⟩
    have e1 : decide ((65536 : Int) < (((bs.map bV).length : Nat) : Int)) = false := by rw [decide_eq_false_iff_not, List.length_map]; omega
    rw [e1]
    refine ite2 (fun c => Bool.noConfusion c) (fun _ => ?_)
    refine ⟨(by show 0 ≤ sizeLine; exact Nat.zero_le _), fun e he => ?_⟩
    have s0 : Same H (upd H e (.lst [])) := Kp.same.mp (Kp.new he)
    have hsl := sizeLine_eq
    have hee : ∀ y o, H y = some o → y ≠ e := fun y o q => ne_of_none q he
    have hem : e ∉ m.all := fun z => by
      obtain ⟨o, q⟩ := M.some e z
      rw [he] at q; cases q
    refine ⟨_, rfl, a, _, rfl, SqL.of (s0 _ _ ha), ?_⟩
    refine for_enum (K := K) (a := a) (xs := bs.map bV) (fun i σ H' => (∃ v3 v4 v5, σ = [some (.ref b), some (.ref a), some (.ref e), v3, v4, v5]) ∧ Kp (e :: m.m :: m.as) (upd H e (.lst [])) H' ∧ H' e = some (.lst (nV (Bt.flatEv (t.rowsFrom 0 x ((Tilt.nat8 bs).take i)).2))) ∧
      MatAt A H' m t.switches (t.rowsFrom 0 x ((Tilt.nat8 bs).take i)).1.tick (Bt.seenOf (t.rowsFrom 0 x ((Tilt.nat8 bs).take i)).1)) ?_ ?_ ?_ ?_
    · exact ⟨⟨none, none, none, rfl⟩, Kp.refl _ _, upd_same, M.keep fun y o q _ => s0 y o q⟩
    · rintro i σ H' _ ⟨_, kp, _⟩
      refine SqL.of (kp _ _ (s0 _ _ ha) ?_)
      rw [List.mem_cons, List.mem_cons, not_or, not_or]
      refine ⟨hee _ _ ha, fun z => ?_, fun z => ?_⟩
      · have := M.obj; rw [← z, ha] at this; cases this
      · obtain ⟨s', d', z', q⟩ := M.ins z
        rw [ha] at q; cases q
    · rintro i v tt σ H' hv ⟨⟨v3, v4, v5, rfl⟩, kp, hev, M'⟩ htt
      rw [List.getElem?_map] at hv
      obtain ⟨cb, hcb, rfl⟩ := Option.map_eq_some_iff.mp hv
      have hrow : (Tilt.nat8 bs)[i]? = some cb.toNat := by unfold Tilt.nat8; rw [List.getElem?_map, hcb]; rfl
      have hi : i < bs.length := (List.getElem?_eq_some_iff.mp hcb).1
      have hts : (Tilt.nat8 bs).take (i + 1) = (Tilt.nat8 bs).take i ++ [cb.toNat] := take_snoc hrow
      have hsn := Bt.rows_snoc (T := t) ((Tilt.nat8 bs).take i) 0 x cb.toNat
      have hil : 0 + ((Tilt.nat8 bs).take i).length = i := by
        have : (Tilt.nat8 bs).length = bs.length := List.length_map _
        rw [List.length_take]; omega
      rw [hil, ← hts] at hsn
      have hll := rows_len Gd ((Tilt.nat8 bs).take i) 0 x
      have hil2 : ((Tilt.nat8 bs).take i).length = i := by omega
      rw [hil2] at hll
      generalize hX : t.rowsFrom 0 x ((Tilt.nat8 bs).take i) = Xi at hsn hev M' hll
      have s1 : Same H' (upd H' tt (.tup [.int (i : Nat), bV cb])) := Kp.same.mp (Kp.new htt)
      have hbk : H' b = some (.ins A.B dx (bn (.ref m.m))) := kp _ _ (s0 _ _ hb) (by
        rw [List.mem_cons, List.mem_cons, not_or, not_or]
        refine ⟨hee _ _ hb, fun z => hn (by unfold Ma.all; simp [z]), fun z => hn (by unfold Ma.all; simp [z])⟩)
      refine ⟨tt, _, rfl, SqT.of upd_same, rfl, _, _, rfl, _, _, rfl, rfl, ?_⟩
      refine ⟨_, rfl, b, A.B, dx, _, _, rfl, s1 _ _ hbk, T.cB, T.nB_matrix, bn_matrix, m.m, m.dx, _, rfl, s1 _ _ M'.obj, (by kernel_rfl), _, rfl, m, t, Xi.1, cb.toNat, rfl, Gd, M'.keep (fun y o q _ => s1 y o q), fun ev H2 k2 he2 hev2 M2 => ⟨ev, rfl, ⟨_, SqL.of hev2⟩, ?_⟩⟩
      have hemas : e ∉ m.m :: m.as := fun z => hem (by
        unfold Ma.all
        rcases List.mem_cons.mp z with q | q <;> simp [q])
      have hev' := k2 _ _ (s1 _ _ hev) hemas
      have kp2 : Kp (e :: m.m :: m.as) (upd H e (.lst [])) H2 := (kp.trans fun y o q _ => s1 y o q).trans (k2.mono fun y hy => List.mem_cons_of_mem _ hy)
      have hne : ev ≠ e := fun z => by rw [z, s1 _ _ hev] at he2; cases he2
      have hrl := row_len Gd Xi.1 cb.toNat
      have hfl := Bt.flat_len Xi.2
      generalize hE : (t.row Xi.1 cb.toNat).2 = evs at hev2 hsn hrl
      refine for_list (K := K) (a := ev) (xs := nV evs) (fun j σ H' => (∃ v5, σ = [some (.ref b), some (.ref a), some (.ref e), some (.int (i : Nat)), some (.int (cb.toNat : Nat)), v5]) ∧ Kp [e] H2 H' ∧ H' e = some (.lst (nV (Bt.flatEv (Xi.2 ++ (evs.take j).map fun z => (i, z)))))) ?_ ?_ ?_ ?_
      · exact ⟨⟨_, rfl⟩, Kp.refl _ _, by rw [hev']; simp⟩
      · rintro j σ H3 _ ⟨_, k3, _⟩
        exact SqL.of (k3 _ _ hev2 (by simpa using hne))
      · rintro j v σ H3 hj ⟨⟨v5, rfl⟩, k3, he3⟩
        unfold nV at hj
        rw [List.getElem?_map] at hj
        obtain ⟨n, hnj, rfl⟩ := Option.map_eq_some_iff.mp hj
        have hjl : j < evs.length := (List.getElem?_eq_some_iff.mp hnj).1
        have hL : (nV (Bt.flatEv (Xi.2 ++ (evs.take j).map fun z => (i, z)))).length ≤ 2 * (64 * i + 64) := by
          unfold nV
          rw [List.length_map, Bt.flat_len, List.length_append, List.length_map, List.length_take]; omega
        refine ⟨_, rfl, .inl ⟨rfl, _, SqL.of he3⟩, _, rfl, e, _, _, rfl, rfl, he3, (by omega), ?_⟩
        refine ⟨_, rfl, .inl ⟨rfl, _, SqL.of upd_same⟩, _, rfl, e, _, _, rfl, rfl, upd_same, (by rw [List.length_append, List.length_singleton]; omega), ?_⟩
        rw [upd_upd]
        refine ⟨⟨_, rfl⟩, k3.trans (Kp.upd (by simp)), ?_⟩
        rw [upd_same, take_snoc hnj, List.map_append, ← List.append_assoc, Bt.flat_append Xi.2]
        unfold nV
        rw [Bt.flat_append, Bt.flat_append, List.map_append, List.map_append, List.map_append, List.append_assoc, List.append_assoc, List.append_assoc]
        rfl
      · rintro σ H3 ⟨⟨v5, rfl⟩, k3, he3⟩
        have hnl : (nV evs).length = evs.length := by unfold nV; rw [List.length_map]
        rw [hnl, List.take_length] at he3
        refine ⟨⟨_, _, _, rfl⟩, kp2.trans (k3.mono (by simp)), ?_, ?_⟩
        · rw [hsn]; exact he3
        · rw [hsn]
          exact M2.keep fun y o q hy => k3 y o q (by
            rw [List.mem_singleton]; intro z; exact hem (z ▸ hy))
    · rintro σ H' ⟨⟨v3, v4, v5, rfl⟩, kp, hev, M'⟩
      have hbl : (bs.map bV).length = (Tilt.nat8 bs).length := by unfold Tilt.nat8; rw [List.length_map, List.length_map]
      rw [hbl, List.take_length] at hev M'
      have hll := rows_len Gd (Tilt.nat8 bs) 0 x
      have hnl : (Tilt.nat8 bs).length = bs.length := List.length_map _
      have hlow := Bt.rows_low Gd (Tilt.nat8 bs) 0 x Lw
      generalize t.rowsFrom 0 x (Tilt.nat8 bs) = Xi at R hev M' hll hlow
      have hfl := Bt.flat_len Xi.2
      have hfn : (nV (Bt.flatEv Xi.2)).length = 2 * Xi.2.length := by unfold nV; rw [List.length_map, hfl]
      refine ⟨_, rfl, e, _, rfl, .inl (SqL.of hev), _, _, rfl, rfl, (by show (0 : Int) < 2 ∧ (2 : Int) < 1073741824; decide), (by show 2 ≤ sizeLine; decide), fun p hp => ?_⟩
      have hpe : e ≠ p := ne_of_none hev hp
      refine ⟨_, rfl, p, e, _, _, rfl, rfl, upd_same, (upd_ne hpe).trans hev, (by show 2 + (nV (Bt.flatEv Xi.2)).length ≤ sizeLine; omega), fun r hr' => ?_⟩
      have s1 : Same H' (upd H' p (.lst [.int 0, .int (((nV (Bt.flatEv Xi.2)).length : Nat) / 2)])) := Kp.same.mp (Kp.new hp)
      have s2 := s1.trans (Kp.same.mp (Kp.new (o := .lst ([.int 0, .int (((nV (Bt.flatEv Xi.2)).length : Nat) / 2)] ++ nV (Bt.flatEv Xi.2))) hr'))
      have fre : H r = none := by
        have h1 := s1.free hr'
        cases q : H r with
        | none => rfl
        | some o =>
          exfalso
          by_cases z : r ∈ e :: m.m :: m.as
          · rcases List.mem_cons.mp z with z | z
            · rw [z, hev] at h1; cases h1
            · rcases List.mem_cons.mp z with z | z
              · rw [z, M'.obj] at h1; cases h1
              · obtain ⟨_, _, _, q'⟩ := M'.ins z
                rw [h1] at q'; cases q'
          · rw [kp _ _ (s0 _ _ q) z] at h1; cases h1
      have hS' : ∀ y, y ∉ b :: S → y ∉ m.m :: m.as := fun y h z => h (by
        rw [hS]; unfold Ma.all
        rcases List.mem_cons.mp z with q | q <;> simp [q])
      refine R r S _ (fun y o q h => s2 _ _ (kp _ _ (s0 _ _ q) ?_)) ⟨Gd, hlow, m, dx, s2 _ _ (kp _ _ (s0 _ _ hb) ?_), M'.keep (fun y o q _ => s2 y o q), hn, hS⟩ (fun z hz => .inl hz) fre ?_
      · rw [List.mem_cons, not_or]
        exact ⟨hee _ _ q, hS' y h⟩
      · rw [List.mem_cons, List.mem_cons, not_or, not_or]
        exact ⟨hee _ _ hb, fun z => hn (by unfold Ma.all; simp [z]), fun z => hn (by unfold Ma.all; simp [z])⟩
      · rw [upd_same, hfn]
        have h2 : (((2 * Xi.2.length : Nat) : Int)) / 2 = (Xi.2.length : Int) := by omega
        show some (HO.lst ([V.int 0, V.int (((2 * Xi.2.length : Nat) : Int) / 2)] ++ nV (Bt.flatEv Xi.2))) = some (HO.lst (V.int 0 :: (((Xi.2.length :: Bt.flatEv Xi.2) : List Nat).map fun (n : Nat) => (n : Int)).map V.int))
        rw [h2, List.map_cons, List.map_cons, List.map_map]
        rfl
end
end Br
end
section
set_option Elab.async false
set_option linter.all false
set_option maxRecDepth 100000
set_option maxHeartbeats 1000000
namespace Br
open PySem PySem.Spec PyProof.Rows L2 Xc
open Tilt (Bytes)
theorem RS.same {A : Ad} {H H1 : Hp} {b : Addr} {S : List Addr} {y : Bt.State × Tilt.Ans} {Q : VK} (R : RS A H b S y Q) (s : Same H H1) : RS A H1 b S y Q := fun e S' H' k B f he hl =>
  R e S' H' (fun a o q n => k a o (s a o q) n) B (fun z hz => (f z hz).imp id fun q => s.free q) (s.free he) hl
theorem drop_get {l d t : List Int} {i k : Nat} (h : l.drop i = d ++ t) (hk : k < d.length) : l[i + k]? = d[k]? := by
  rw [← List.getElem?_drop, h, List.getElem?_append_left hk]
theorem cut_call {l d t : List Int} {i : Nat} (h : l.drop i = d ++ t) (hi : i ≤ l.length) : cutV (l.map V.int) (some (i : Int)) (some ((i + d.length : Nat) : Int)) = d.map V.int := by
  have hl : l.length - i = d.length + t.length := by rw [← List.length_drop, h, List.length_append]
  unfold cutV
  rw [HT.sIx_nat, HT.sIx_nat, List.length_map, Nat.min_eq_left (by omega), Nat.min_eq_left hi, ← List.map_drop, ← List.map_take, h]
  have : i + d.length - i = d.length := by omega
  rw [this, List.take_left' rfl]
theorem cut_tail {a n : Int} {t : List Int} : cutV ((a :: n :: t).map V.int) (some (2 : Int)) none = t.map V.int := by
  unfold cutV
  have e := HT.sIx_nat ((a :: n :: t).map V.int).length 0 2
  have e2 : HT.sIx ((a :: n :: t).map V.int).length ((a :: n :: t).map V.int).length none = ((a :: n :: t).map V.int).length := rfl
  rw [show (some (2 : Int)) = some ((2 : Nat) : Int) from rfl, e, e2]
  have e3 : min 2 ((a :: n :: t).map V.int).length = 2 := by simp
  rw [e3]
  show (t.map V.int).take _ = _
  rw [List.take_of_length_le]
  simp
theorem tail_bytes {t : List Int} (h : (t.all fun z => ScanNeutral.natural z 8) = true) : t.map V.int = (ScanNeutral.text t).map bV := by
  have := Bt.text_nat h
  conv => lhs; rw [this]
  rw [List.map_map]; rfl
def spLen (K : PySem.W.Frag) : Sp := fun vs H Q _ => ∃ (c : Addr) (i : Nat) (l d t : List Int) (cc : List (List Int)), vs = [.ref c, .int i] ∧ SqL K H c (l.map V.int) ∧ l.drop i = d ++ t ∧ Bt.One d cc ∧ Q (.int d.length) H
def RN (A : Ad) (H : Hp) (b : Addr) (S : List Addr) (y : Bt.State × List Int) (Q : VK) : Prop :=
  ∀ e S' H', Kp (b :: S) H H' → BnAt A H' b y.1 S' → (∀ z ∈ S', z ∈ S ∨ H z = none) → H e = none → H' e = some (.lst (y.2.map V.int)) → Q (.ref e) H'
def spAnswer (A : Ad) : Sp := fun vs H Q _ => ∃ (b c : Addr) (st : Bt.State) (S : List Addr) (d : List Int) (cc : List (List Int)), vs = [.ref b, .ref c] ∧ H c = some (.lst (d.map V.int)) ∧ Bt.One d cc ∧ d.length ≤ 30000 ∧ BnAt A H b st S ∧ RN A H b S (ScanNeutral.step st cc) Q
def spAnswers (K : PySem.W.Frag) : Sp := fun vs H Q _ => ∃ (c : Addr) (l : List Int), vs = [.ref c] ∧ SqL K H c (l.map V.int) ∧ l.length ≤ 30000 ∧ PyWqaqbz.answers_asked l = true ∧ ∀ H' p, H' p = some (.lst ((PyWqaqbz.answers l).map V.int)) → Q (.ref p) H'
theorem ans_len {A : Ad} {H : Hp} {b : Addr} {st : Bt.State} {S : List Addr} {d : List Int} {cc : List (List Int)} (B : BnAt A H b st S) (o : Bt.One d cc) (hd : d.length ≤ 30000) : (ScanNeutral.step st cc).2.length + 1 ≤ 130 * d.length := by
  cases o with
  | begin_ t ht =>
    have : (ScanNeutral.step st [[1], t]).2.length ≤ 3 := by
      show ((TiltScanCalls.step st (.begin_ (ScanNeutral.text t))).2.code :: (TiltScanCalls.step st (.begin_ (ScanNeutral.text t))).2.nums).length ≤ 3
      rw [List.length_cons]
      by_cases c : 16384 < (ScanNeutral.text t).length
      · rw [begin_long c]; exact (show 1 ≤ 3 by decide)
      · cases q : Bt.readM (ScanNeutral.text t) with
        | error f => rw [begin_bad c q]; exact Nat.le_refl _
        | ok q' => rw [begin_ok c q]; exact (show 1 ≤ 3 by decide)
    simp only [List.length_cons] at hd ⊢
    omega
  | rows t ht =>
    have tl := Bt.text_len t
    simp only [List.length_cons] at hd
    match st, B with
    | none, B =>
      have : (ScanNeutral.step none [[2], t]).2 = [-10] := rfl
      rw [this]; simp only [List.length_cons, List.length_nil]; omega
    | some (T, x), ⟨G, _⟩ =>
      have e := rows_step (T := T) (x := x) (bs := ScanNeutral.text t) (by rw [tl]; omega)
      have e2 : (ScanNeutral.step (some (T, x)) [[2], t]).2 = (TiltScanCalls.step (some (T, x)) (.rows (ScanNeutral.text t))).2.code :: (TiltScanCalls.step (some (T, x)) (.rows (ScanNeutral.text t))).2.nums := rfl
      rw [e2, e]
      have hl := rows_len G (Tilt.nat8 (ScanNeutral.text t)) 0 x
      have hn : (Tilt.nat8 (ScanNeutral.text t)).length = t.length := by unfold Tilt.nat8; rw [List.length_map, tl]
      have hf := Bt.flat_len (T.rowsFrom 0 x (Tilt.nat8 (ScanNeutral.text t))).2
      show (0 :: ((T.rowsFrom 0 x (Tilt.nat8 (ScanNeutral.text t))).2.length :: Bt.flatEv (T.rowsFrom 0 x (Tilt.nat8 (ScanNeutral.text t))).2).map (fun (n : Nat) => (n : Int))).length + 1 ≤ 130 * (t.length + 1 + 1)
      rw [List.length_cons, List.length_map, List.length_cons, hf]
      omega
  | soon p hp =>
    have : (ScanNeutral.step st [[3, p]]).2.length ≤ 3 := by
      match st with
      | none => exact (show 1 ≤ 3 by decide)
      | some (T, x) =>
        show ((TiltScanCalls.step (some (T, x)) (.soon p.toNat)).2.code :: (TiltScanCalls.step (some (T, x)) (.soon p.toNat)).2.nums).length ≤ 3
        by_cases c : 63 < p.toNat
        · rw [soon_far c]; exact (show 1 ≤ 3 by decide)
        · cases q : T.soon x p.toNat with
          | none => rw [soon_no c q]; exact (show 1 ≤ 3 by decide)
          | some n => rw [soon_yes c q]; exact Nat.le_succ _
    simp only [List.length_cons, List.length_nil]; omega
  | stands p hp =>
    have : (ScanNeutral.step st [[4, p]]).2.length ≤ 3 := by
      match st with
      | none => exact (show 1 ≤ 3 by decide)
      | some (T, x) =>
        show ((TiltScanCalls.step (some (T, x)) (.stands p.toNat)).2.code :: (TiltScanCalls.step (some (T, x)) (.stands p.toNat)).2.nums).length ≤ 3
        by_cases c : 63 < p.toNat
        · rw [stands_far c]; exact (show 1 ≤ 3 by decide)
        · by_cases q : T.hasSwitch p.toNat = true
          · rw [stands_yes c q]; exact Nat.le_refl _
          · rw [stands_no c q]; exact (show 1 ≤ 3 by decide)
    simp only [List.length_cons, List.length_nil]; omega
  | tick =>
    have : (ScanNeutral.step st [[5]]).2.length ≤ 3 := by
      match st with
      | none => exact (show 1 ≤ 3 by decide)
      | some (T, x) => exact Nat.le_succ _
    simp only [List.length_cons, List.length_nil]; omega
section
variable {P : Program} {w : World} {K : PySem.W.Frag} {mg : Str → Option Value} {base : Heap} {A : Ad} {f : Addr} {fd : FuncData}
theorem scLen : FnScope ["calls", "start"] ["calls", "start"] (defScope (top 78)) := ⟨rfl, rfl, rfl, by decide +kernel, rfl, by decide +kernel, by decide +kernel⟩
theorem ok_len (T : Tx K mg A) (G : Fun K "length_of_call" "length_of_call" (top 78) f fd) : FnOk P w K mg base CX0 1 f fd ["calls", "start"] (spLen K) := by
  refine G.ok scLen (fun vs H Q E h => ?_) (fun cdv Ar outer s H vs Q E hr h => ?_)
  · obtain ⟨c, i, l, d, t, cc, rfl, _⟩ := h
    rfl
  · obtain ⟨c, i, l, d, t, cc, rfl, hc, hd, o, k⟩ := h
    refine ⟨_, pss_cons (ps_if (pt_cmpR op_eq (pe_ix ix_list (pv 0) (pv 1) (fun _ _ => rfl)) (pe_gv rfl T.gTICK) (nomark _)) (pss_one (ps_ret pe_int)) pss_nil)
      (pss_cons (ps_if (PW.pt (pw_or (pt_cmpR op_eq (pe_ix ix_list (pv 0) (pv 1) (fun _ _ => rfl)) (pe_gv rfl T.gSOON) (nomark _)) (pw_or1 (pt_cmpR op_eq (pe_ix ix_list (pv 0) (pv 1) (fun _ _ => rfl)) (pe_gv rfl T.gSTANDS) (nomark _))))) (pss_one (ps_ret pe_int)) pss_nil)
      (pss_one (ps_ret (pe_op op_add pe_int (pe_ix ix_list (pv 0) (pe_op op_add (pv 1) pe_int) (fun _ _ => rfl)))))), ?_⟩
    have at0 : ∀ a r, d = a :: r → atI (l.map V.int) (i : Int) = some (V.int a) := fun a r e => atI_nat (by
      have := drop_get (k := 0) hd (by rw [e]; exact Nat.succ_pos _)
      rw [Nat.add_zero] at this
      rw [List.getElem?_map, this, e]; rfl)
    have at1 : ∀ a n r, d = a :: n :: r → atI (l.map V.int) ((i : Int) + 1) = some (V.int n) := fun a n r e => at_of (j := i + 1) (by omega) (by
      have := drop_get (k := 1) hd (by rw [e]; simp)
      rw [List.getElem?_map, this, e]; rfl)
    have ne : ∀ {a b : Int} {R1 R2 : Prop}, ¬ a = b → R2 → (if decide (V.int a = V.int b) = true then R1 else R2) := fun {a b R1 R2} h q => by
      rw [dInt, decide_eq_false h, if_neg (by decide)]; exact q
    have eq : ∀ {a b : Int} {R1 R2 : Prop}, a = b → R1 → (if decide (V.int a = V.int b) = true then R1 else R2) := fun {a b R1 R2} h q => by
      rw [dInt, decide_eq_true h, if_pos rfl]; exact q
    cases o with
    | begin_ t' ht' =>
      have a0 := at0 _ _ rfl
      have a1 := at1 _ _ _ rfl
      refine ⟨_, rfl, _, rfl, c, _, _, _, rfl, rfl, hc, a0, rfl, _, rfl, ne (by decide) ?_⟩
      refine ⟨_, rfl, _, rfl, c, _, _, _, rfl, rfl, hc, a0, rfl, _, rfl, ne (by decide) ?_⟩
      refine ⟨_, rfl, _, rfl, c, _, _, _, rfl, rfl, hc, a0, rfl, _, rfl, ne (by decide) ?_⟩
      refine ⟨_, rfl, _, rfl, _, _, rfl, rfl, c, _, _, _, rfl, rfl, hc, a1, _, _, rfl, rfl, ?_⟩
      rw [show ((1 :: (t'.length : Int) :: t').length : Int) = 2 + (t'.length : Int) by simp only [List.length_cons]; omega] at k
      exact k
    | rows t' ht' =>
      have a0 := at0 _ _ rfl
      have a1 := at1 _ _ _ rfl
      refine ⟨_, rfl, _, rfl, c, _, _, _, rfl, rfl, hc, a0, rfl, _, rfl, ne (by decide) ?_⟩
      refine ⟨_, rfl, _, rfl, c, _, _, _, rfl, rfl, hc, a0, rfl, _, rfl, ne (by decide) ?_⟩
      refine ⟨_, rfl, _, rfl, c, _, _, _, rfl, rfl, hc, a0, rfl, _, rfl, ne (by decide) ?_⟩
      refine ⟨_, rfl, _, rfl, _, _, rfl, rfl, c, _, _, _, rfl, rfl, hc, a1, _, _, rfl, rfl, ?_⟩
      rw [show ((2 :: (t'.length : Int) :: t').length : Int) = 2 + (t'.length : Int) by simp only [List.length_cons]; omega] at k
      exact k
    | soon p hp =>
      have a0 := at0 _ _ rfl
      refine ⟨_, rfl, _, rfl, c, _, _, _, rfl, rfl, hc, a0, rfl, _, rfl, ne (by decide) ?_⟩
      refine ⟨_, rfl, _, rfl, c, _, _, _, rfl, rfl, hc, a0, rfl, _, rfl, eq (by decide) ?_⟩
      exact iteT k
    | stands p hp =>
      have a0 := at0 _ _ rfl
      refine ⟨_, rfl, _, rfl, c, _, _, _, rfl, rfl, hc, a0, rfl, _, rfl, ne (by decide) ?_⟩
      refine ⟨_, rfl, _, rfl, c, _, _, _, rfl, rfl, hc, a0, rfl, _, rfl, ne (by decide) ?_⟩
      refine ⟨_, rfl, _, rfl, c, _, _, _, rfl, rfl, hc, a0, rfl, _, rfl, eq (by decide) ?_⟩
      exact k
    | tick =>
      have a0 := at0 _ _ rfl
      refine ⟨_, rfl, _, rfl, c, _, _, _, rfl, rfl, hc, a0, rfl, _, rfl, eq (by decide) ?_⟩
      exact k
theorem scAnswer : FnScope ["bench", "call"] ["bench", "call"] (defScope (top 79)) := ⟨rfl, rfl, rfl, by decide +kernel, rfl, by decide +kernel, by decide +kernel⟩
theorem ok_answer (T : Tx K mg A) (mBegin : Mt P w K mg base CX0 A.B "begin" 10 ["self", "text"] (spBegin A)) (mRows : Mt P w K mg base CX0 A.B "rows" 4 ["self", "given"] (spRows A)) (mSoon : Mt P w K mg base CX0 A.B "soon" 3 ["self", "place"] (spSoon A))
    (mStands : Mt P w K mg base CX0 A.B "stands" 2 ["self", "place"] (spStands A)) (mTick : Mt P w K mg base CX0 A.B "tick" 1 ["self"] (spTick A)) (G : Fun K "answer" "answer" (top 79) f fd) : FnOk P w K mg base CX0 11 f fd ["bench", "call"] (spAnswer A) := by
  refine G.ok scAnswer (fun vs H Q E h => ?_) (fun cdv Ar outer s H vs Q E hr h => ?_)
  · obtain ⟨b, c, st, S, d, cc, rfl, _⟩ := h
    rfl
  · obtain ⟨b, c, st, S, d, cc, rfl, hc, o, hlen, B, R⟩ := h
    refine ⟨_, pss_cons (ps_if (pt_cmpR op_eq (pe_ix ix_list (pv 1) pe_int (fun _ _ => rfl)) (pe_gv rfl T.gBEGIN) (nomark _)) (pss_one (ps_ret (pe_mt (pv 0) T.cB mBegin hr (by decide) pass0 (pa_cons (pe_slice sl_list (pv 1) (po_some pe_int) po_none) pa_nil)))) pss_nil)
      (pss_cons (ps_if (pt_cmp (pc_isN (pe_fld (pv 0) rfl))) (pss_one (ps_ret (pe_lst (pa_cons (pe_gv rfl T.gNOTHING_BEGUN) pa_nil)))) pss_nil)
      (pss_cons (ps_if (pt_cmpR op_eq (pe_ix ix_list (pv 1) pe_int (fun _ _ => rfl)) (pe_gv rfl T.gROWS) (nomark _)) (pss_one (ps_ret (pe_mt (pv 0) T.cB mRows hr (by decide) pass0 (pa_cons (pe_slice sl_list (pv 1) (po_some pe_int) po_none) pa_nil)))) pss_nil)
      (pss_cons (ps_if (pt_cmpR op_eq (pe_ix ix_list (pv 1) pe_int (fun _ _ => rfl)) (pe_gv rfl T.gSOON) (nomark _)) (pss_one (ps_ret (pe_mt (pv 0) T.cB mSoon hr (by decide) pass0 (pa_cons (pe_ix ix_list (pv 1) pe_int (fun _ _ => rfl)) pa_nil)))) pss_nil)
      (pss_cons (ps_if (pt_cmpR op_eq (pe_ix ix_list (pv 1) pe_int (fun _ _ => rfl)) (pe_gv rfl T.gSTANDS) (nomark _)) (pss_one (ps_ret (pe_mt (pv 0) T.cB mStands hr (by decide) pass0 (pa_cons (pe_ix ix_list (pv 1) pe_int (fun _ _ => rfl)) pa_nil)))) pss_nil)
      (pss_one (ps_ret (pe_mt0 (pv 0) T.cB mTick hr (by decide) pass0))))))), ?_⟩
    have ne : ∀ {a b : Int} {R1 R2 : Prop}, ¬ a = b → R2 → (if decide (V.int a = V.int b) = true then R1 else R2) := fun {a b R1 R2} h q => by
      rw [dInt, decide_eq_false h, if_neg (by decide)]; exact q
    have eq : ∀ {a b : Int} {R1 R2 : Prop}, a = b → R1 → (if decide (V.int a = V.int b) = true then R1 else R2) := fun {a b R1 R2} h q => by
      rw [dInt, decide_eq_true h, if_pos rfl]; exact q
    have isno : ∀ {R1 R2 : Prop}, R1 → (if decide (V.non = V.non) = true then R1 else R2) := fun {R1 R2} q => by
      rw [decide_eq_true rfl, if_pos rfl]; exact q
    have isnot : ∀ {m : Addr} {R1 R2 : Prop}, R2 → (if decide (V.ref m = V.non) = true then R1 else R2) := fun {m R1 R2} q => by
      rw [decide_eq_false (fun z => by cases z), if_neg (by decide)]; exact q
    have nothing : ∀ (y : Bt.State × List Int), y = (none, [-10]) → st = none → RN A H b S y Q → ∀ e, H e = none → Q (.ref e) (upd H e (.lst [.int (-10)])) := fun y hy hst R' e he => by
      subst hy hst
      have s0 : Same H (upd H e (.lst [.int (-10)])) := Kp.same.mp (Kp.new he)
      exact R' e S _ (fun a o q _ => s0 a o q) (B.keep fun a o q _ => s0 a o q) (fun z hz => .inl hz) he upd_same
    cases o with
    | begin_ t ht =>
      have R : RS A H b S (TiltScanCalls.step st (.begin_ (ScanNeutral.text t))) Q := R
      obtain ⟨dx, v, hb⟩ := B.obj
      refine ⟨_, rfl, c, _, 0, _, rfl, rfl, SqL.of hc, atI_nat (j := 0) rfl, rfl, _, rfl, eq (by decide) ?_⟩
      refine ⟨_, rfl, b, dx, _, rfl, hb, (by kernel_rfl), _, rfl, _, rfl, c, _, rfl, SqL.of hc, fun p hp => ?_⟩
      rw [cut_tail, tail_bytes ht]
      have s0 : Same H (upd H p (.lst ((ScanNeutral.text t).map bV))) := Kp.same.mp (Kp.new hp)
      exact ⟨b, p, st, S, ScanNeutral.text t, rfl, upd_same, B.keep fun a o q _ => s0 a o q, R.same s0⟩
    | rows t ht =>
      refine ⟨_, rfl, c, _, 0, _, rfl, rfl, SqL.of hc, atI_nat (j := 0) rfl, rfl, _, rfl, ne (by decide) ?_⟩
      match st, B, R, nothing with
      | none, B, R, nothing =>
        obtain ⟨hS, dx, hb⟩ := id B
        exact ⟨_, rfl, b, A.B, dx, _, _, rfl, hb, T.cB, T.nB_matrix, bn_matrix, _, rfl, isno ⟨(by show 1 ≤ sizeLine; decide), fun e he => nothing _ rfl rfl R e he⟩⟩
      | some (tb, x), B, R, nothing =>
        have R : RS A H b S (TiltScanCalls.step (some (tb, x)) (.rows (ScanNeutral.text t))) Q := R
        obtain ⟨Gd, Lw, m, dx, hb, M, hn, hS⟩ := id B
        refine ⟨_, rfl, b, A.B, dx, _, _, rfl, hb, T.cB, T.nB_matrix, bn_matrix, _, rfl, isnot ?_⟩
        refine ⟨_, rfl, c, _, 0, _, rfl, rfl, SqL.of hc, atI_nat (j := 0) rfl, rfl, _, rfl, eq (by decide) ?_⟩
        refine ⟨_, rfl, b, dx, _, rfl, hb, (by kernel_rfl), _, rfl, _, rfl, c, _, rfl, SqL.of hc, fun p hp => ?_⟩
        rw [cut_tail, tail_bytes ht]
        have s0 : Same H (upd H p (.lst ((ScanNeutral.text t).map bV))) := Kp.same.mp (Kp.new hp)
        exact ⟨b, p, tb, x, S, ScanNeutral.text t, rfl, upd_same, B.keep fun a o q _ => s0 a o q, by rw [Bt.text_len]; simp only [List.length_cons] at hlen; omega, R.same s0⟩
    | soon p hp =>
      refine ⟨_, rfl, c, _, 0, _, rfl, rfl, SqL.of hc, atI_nat (j := 0) rfl, rfl, _, rfl, ne (by decide) ?_⟩
      match st, B, R, nothing with
      | none, B, R, nothing =>
        obtain ⟨hS, dx, hb⟩ := id B
        exact ⟨_, rfl, b, A.B, dx, _, _, rfl, hb, T.cB, T.nB_matrix, bn_matrix, _, rfl, isno ⟨(by show 1 ≤ sizeLine; decide), fun e he => nothing _ rfl rfl R e he⟩⟩
      | some (tb, x), B, R, nothing =>
        have R : RS A H b S (TiltScanCalls.step (some (tb, x)) (.soon p.toNat)) Q := R
        obtain ⟨Gd, Lw, m, dx, hb, M, hn, hS⟩ := id B
        refine ⟨_, rfl, b, A.B, dx, _, _, rfl, hb, T.cB, T.nB_matrix, bn_matrix, _, rfl, isnot ?_⟩
        refine ⟨_, rfl, c, _, 0, _, rfl, rfl, SqL.of hc, atI_nat (j := 0) rfl, rfl, _, rfl, ne (by decide) ?_⟩
        refine ⟨_, rfl, c, _, 0, _, rfl, rfl, SqL.of hc, atI_nat (j := 0) rfl, rfl, _, rfl, eq (by decide) ?_⟩
        refine ⟨_, rfl, b, dx, _, rfl, hb, (by kernel_rfl), _, rfl, c, _, 1, _, rfl, rfl, SqL.of hc, atI_nat (j := 1) rfl, ?_⟩
        exact ⟨b, tb, x, S, p.toNat, by rw [Int.toNat_of_nonneg hp]; rfl, B, R⟩
    | stands p hp =>
      refine ⟨_, rfl, c, _, 0, _, rfl, rfl, SqL.of hc, atI_nat (j := 0) rfl, rfl, _, rfl, ne (by decide) ?_⟩
      match st, B, R, nothing with
      | none, B, R, nothing =>
        obtain ⟨hS, dx, hb⟩ := id B
        exact ⟨_, rfl, b, A.B, dx, _, _, rfl, hb, T.cB, T.nB_matrix, bn_matrix, _, rfl, isno ⟨(by show 1 ≤ sizeLine; decide), fun e he => nothing _ rfl rfl R e he⟩⟩
      | some (tb, x), B, R, nothing =>
        have R : RS A H b S (TiltScanCalls.step (some (tb, x)) (.stands p.toNat)) Q := R
        obtain ⟨Gd, Lw, m, dx, hb, M, hn, hS⟩ := id B
        refine ⟨_, rfl, b, A.B, dx, _, _, rfl, hb, T.cB, T.nB_matrix, bn_matrix, _, rfl, isnot ?_⟩
        refine ⟨_, rfl, c, _, 0, _, rfl, rfl, SqL.of hc, atI_nat (j := 0) rfl, rfl, _, rfl, ne (by decide) ?_⟩
        refine ⟨_, rfl, c, _, 0, _, rfl, rfl, SqL.of hc, atI_nat (j := 0) rfl, rfl, _, rfl, ne (by decide) ?_⟩
        refine ⟨_, rfl, c, _, 0, _, rfl, rfl, SqL.of hc, atI_nat (j := 0) rfl, rfl, _, rfl, eq (by decide) ?_⟩
        refine ⟨_, rfl, b, dx, _, rfl, hb, (by kernel_rfl), _, rfl, c, _, 1, _, rfl, rfl, SqL.of hc, atI_nat (j := 1) rfl, ?_⟩
        exact ⟨b, tb, x, S, p.toNat, by rw [Int.toNat_of_nonneg hp]; rfl, B, R⟩
    | tick =>
      refine ⟨_, rfl, c, _, 0, _, rfl, rfl, SqL.of hc, atI_nat (j := 0) rfl, rfl, _, rfl, ne (by decide) ?_⟩
      match st, B, R, nothing with
      | none, B, R, nothing =>
        obtain ⟨hS, dx, hb⟩ := id B
        exact ⟨_, rfl, b, A.B, dx, _, _, rfl, hb, T.cB, T.nB_matrix, bn_matrix, _, rfl, isno ⟨(by show 1 ≤ sizeLine; decide), fun e he => nothing _ rfl rfl R e he⟩⟩
      | some (tb, x), B, R, nothing =>
        have R : RS A H b S (TiltScanCalls.step (some (tb, x)) .tick) Q := R
        obtain ⟨Gd, Lw, m, dx, hb, M, hn, hS⟩ := id B
        refine ⟨_, rfl, b, A.B, dx, _, _, rfl, hb, T.cB, T.nB_matrix, bn_matrix, _, rfl, isnot ?_⟩
        refine ⟨_, rfl, c, _, 0, _, rfl, rfl, SqL.of hc, atI_nat (j := 0) rfl, rfl, _, rfl, ne (by decide) ?_⟩
        refine ⟨_, rfl, c, _, 0, _, rfl, rfl, SqL.of hc, atI_nat (j := 0) rfl, rfl, _, rfl, ne (by decide) ?_⟩
        refine ⟨_, rfl, c, _, 0, _, rfl, rfl, SqL.of hc, atI_nat (j := 0) rfl, rfl, _, rfl, ne (by decide) ?_⟩
        refine ⟨_, rfl, b, dx, _, rfl, hb, (by kernel_rfl), ?_⟩
        exact ⟨b, tb, x, S, rfl, B, R⟩
end
end Br
end
section
set_option Elab.async false
set_option linter.all false
set_option maxRecDepth 100000
set_option maxHeartbeats 1000000
namespace Br
open PySem PySem.Spec PyProof.Rows L2 Xc
open Tilt (Bytes)
section
variable {P : Program} {w : World} {K : PySem.W.Frag} {mg : Str → Option Value} {base : Heap} {A : Ad} {f : Addr} {fd : FuncData}
theorem scAnswers : FnScope ["calls", "bench", "told", "start", "behind", "numbers"] ["calls"] (defScope (top 80)) := ⟨rfl, rfl, rfl, by decide +kernel, rfl, by decide +kernel, by decide +kernel⟩
theorem ok_answers (T : Tx K mg A) (ckB : Ck P w K mg base CX0 "Bench" A.B 1 ["self"] (spBnInit A)) (fLen : Fn P w K mg base CX0 "length_of_call" 1 ["calls", "start"] [] (spLen K)) (fAns : Fn P w K mg base CX0 "answer" 11 ["bench", "call"] [] (spAnswer A))
    (G : Fun K "answers" "answers" (top 80) f fd) : FnOk P w K mg base CX0 12 f fd ["calls"] (spAnswers K) := by
  refine G.ok scAnswers (fun vs H Q E h => ?_) (fun cdv Ar outer s H vs Q E hr h => ?_)
  · obtain ⟨c, l, rfl, _⟩ := h
    rfl
  · obtain ⟨c, l, rfl, hc, hlen, hask, k⟩ := h
    refine ⟨_, pss_cons (ps_set (i := 1) scAnswers.nd rfl (Or.inl rfl) (pe_ck0 ckB hr (by decide) rfl pass0))
      (pss_cons (ps_set (i := 2) scAnswers.nd rfl (Or.inl rfl) (pe_lst pa_nil))
      (pss_cons (ps_set (i := 3) scAnswers.nd rfl (Or.inl rfl) pe_int)
      (pss_cons (ps_while PassesOwn.never (pt_cmpR op_lt (pv 3) (pe_callB call_len_seq rfl T.b_len PySem.boot_len (pa_cons (pv 0) pa_nil)) (nomark _))
        (pss_cons (ps_set (i := 4) scAnswers.nd rfl (Or.inl rfl) (pe_op op_add (pv 3) (pe_fn fLen hr (by decide) rfl pass0 (pa_cons (pv 0) (pa_cons (pv 3) pa_nil)))))
        (pss_cons (ps_set (i := 5) scAnswers.nd rfl (Or.inl rfl) (pe_fn fAns hr (by decide) rfl pass0 (pa_cons (pv 1) (pa_cons (pe_slice sl_list (pv 0) (po_some (pv 3)) (po_some (pv 4))) pa_nil))))
        (pss_cons (ps_expr (pe_bm PySem.F.plainAttrs_list PySem.F.slot_list_append PySem.F.type_list_append mt_append (pv 2) (pa_cons (pe_callB call_len_seq rfl T.b_len PySem.boot_len (pa_cons (pv 5) pa_nil)) pa_nil)))
        (pss_cons (ps_expr (pe_bm PySem.F.plainAttrs_list PySem.F.slot_list_extend PySem.F.type_list_extend mt_extend (pv 2) (pa_cons (pv 5) pa_nil)))
        (pss_one (ps_set (i := 3) scAnswers.nd rfl (Or.inl rfl) (pv 4))))))))
      (pss_one (ps_ret (pv 2)))))), ?_⟩
    have hsl := sizeLine_eq
    intro b dx nb ndx hne
    refine ⟨b, dx, rfl, upd_same, fun H1 k1 hb1 => ⟨rfl, ?_⟩⟩
    have s1 : Same H H1 := Same.made nb ndx fun y o e n => k1 y o e (by simpa using n)
    refine ⟨(by show 0 ≤ sizeLine; exact Nat.zero_le _), fun e he => ?_⟩
    have s2 : Same H1 (upd H1 e (.lst [])) := Kp.same.mp (Kp.new he)
    have heb : e ≠ b := fun z => by rw [z, hb1] at he; cases he
    obtain ⟨cs, hcs, hall⟩ : ∃ cs, PyFlat.calls PyWqaqbz.shape l.length l = some cs ∧ cs.all ScanNeutral.asked1 = true := by
      unfold PyWqaqbz.answers_asked at hask
      rw [Bt.calls_eq] at hask
      cases q : PyFlat.calls PyWqaqbz.shape l.length l with
      | none => rw [q] at hask; cases hask
      | some cs =>
        rw [q] at hask
        have h1 : (PyFlat.atMost 300 cs && (!cs.isEmpty && cs.all ScanNeutral.asked1)) = true := hask
        rw [Bool.and_eq_true, Bool.and_eq_true] at h1
        exact ⟨cs, rfl, h1.2.2⟩
    have hans : PyWqaqbz.answers l = PyFlat.told (PyFlat.played ScanNeutral.step ScanNeutral.start cs) := by
      unfold PyWqaqbz.answers
      rw [Bt.calls_eq, hcs]
    refine ⟨fun m σ H' => ∃ (i : Nat) (st : Bt.State) (S : List Addr) (acc : List Int) (g : Nat) (cs : List (List (List Int))) (v4 v5 : Option V), m = l.length - i ∧ i ≤ l.length ∧ σ = [some (.ref c), some (.ref b), some (.ref e), some (.int i), v4, v5] ∧ Same H H' ∧ BnAt A H' b st S ∧ e ∉ b :: S ∧ (∀ z ∈ S, H z = none) ∧
        H' e = some (.lst (acc.map V.int)) ∧ PyFlat.calls PyWqaqbz.shape g (l.drop i) = some cs ∧ cs.all ScanNeutral.asked1 = true ∧ PyWqaqbz.answers l = acc ++ PyFlat.told (PyFlat.played ScanNeutral.step st cs) ∧ acc.length ≤ 130 * i,
      ⟨_, 0, none, [], [], l.length, cs, none, none, rfl, Nat.zero_le _, rfl, s1.trans s2, ⟨rfl, dx, s2 _ _ hb1⟩, (by simpa using heb), (fun z hz => by cases hz), upd_same, hcs, hall, hans, Nat.zero_le _⟩, ?_⟩
    rintro m σ H' ⟨i, st, S, acc, g, cs, v4, v5, rfl, hi, rfl, sH, B, heS, hfS, hacc, hcalls, hall, hans, hal⟩
    have hcq : SqL K H' c (l.map V.int) := sH.seq hc
    refine ⟨_, rfl, _, rfl, c, _, rfl, .inl hcq, _, _, rfl, rfl, _, rfl, ?_⟩
    have e1 : decide ((i : Int) < (((l.map V.int).length : Nat) : Int)) = decide (i < l.length) := by rw [decide_eq_decide, List.length_map]; omega
    show if decide ((i : Int) < (((l.map V.int).length : Nat) : Int)) = true then _ else _
    rw [e1]
    refine ite2 (fun cc => ?_) (fun cc => ?_)
    · have hlt := of_decide_eq_true cc
      obtain ⟨a0, r0, hdr⟩ : ∃ a0 r0, l.drop i = a0 :: r0 := by
        cases q : l.drop i with
        | nil => rw [List.drop_eq_nil_iff] at q; omega
        | cons a0 r0 => exact ⟨a0, r0, rfl⟩
      rw [hdr] at hcalls
      match g, hcalls with
      | 0, hcalls => cases hcalls
      | g + 1, hcalls =>
        obtain ⟨cl, t, cs', rfl, hc', hall', d, o, hd, hld, hd1⟩ := Bt.one_call hcalls hall
        have hdt : l.drop i = d ++ t := hdr.trans hd
        have hdl : l.length - i = d.length + t.length := by rw [← List.length_drop, hdt, List.length_append]
        have hdt2 : l.drop (i + d.length) = t := by rw [← List.drop_drop, hdt, List.drop_left' rfl]
        have hdlen : d.length ≤ 30000 := by omega
        have hcut := cut_call hdt hi
        have hal2 := ans_len B o hdlen
        refine ⟨_, fun σ' H'' z => z, ?_⟩
        refine ⟨_, rfl, _, rfl, _, rfl, c, i, l, d, t, cl, rfl, hcq, hdt, o, _, _, rfl, rfl, ?_⟩
        refine ⟨_, rfl, _, rfl, _, rfl, _, rfl, _, rfl, _, rfl, c, _, rfl, hcq, fun p hp => ?_⟩
        have ei : (i : Int) + (d.length : Int) = ((i + d.length : Nat) : Int) := by omega
        rw [ei, hcut]
        rw [ei, hcut] at *
        have s3 : Same H' (upd H' p (.lst (d.map V.int))) := Kp.same.mp (Kp.new hp)
        refine ⟨b, p, st, S, d, cl, rfl, upd_same, o, hdlen, B.keep fun y o q _ => s3 y o q, fun r S' H2 k2 B2 hf2 hr2 hr2' => ?_⟩
        have sH2 : Same H H2 := fun y o q => k2 y o (s3 y o (sH y o q)) (by
          rw [List.mem_cons, not_or]
          refine ⟨fun z => ?_, fun z => ?_⟩
          · rw [z, nb] at q; cases q
          · rw [hfS y z] at q; cases q)
        have hacc2 := k2 _ _ (s3 _ _ hacc) heS
        have heS2 : e ∉ b :: S' := fun z => by
          rcases List.mem_cons.mp z with q | q
          · exact heb q
          · rcases hf2 e q with q | q
            · exact heS (List.mem_cons_of_mem _ q)
            · rw [s3 _ _ hacc] at q; cases q
        have hre : r ≠ e := fun z => by rw [z, s3 _ _ hacc] at hr2; cases hr2
        have hfS2 : ∀ z ∈ S', H z = none := fun z hz => by
          rcases hf2 z hz with q | q
          · exact hfS z q
          · exact (sH.trans s3).free q
        generalize hans2 : ScanNeutral.step st cl = y at *
        refine ⟨_, rfl, .inl ⟨rfl, _, SqL.of hacc2⟩, _, rfl, r, _, rfl, .inl (SqL.of hr2'), e, _, _, rfl, rfl, hacc2, (by rw [List.length_map]; omega), ?_⟩
        refine ⟨_, rfl, .inl ⟨rfl, _, SqL.of upd_same⟩, _, rfl, e, r, _, _, rfl, rfl, upd_same, (upd_ne hre).trans hr2', (by rw [List.length_append, List.length_map, List.length_map, List.length_singleton]; omega), ?_⟩
        rw [upd_upd]
        have up : ∀ z o, H2 z = some o → z ≠ e → ∀ u, upd H2 e u z = some o := fun z o q n u => (upd_ne n).trans q
        refine ⟨_, rfl, l.length - (i + d.length), by omega, i + d.length, y.1, S', acc ++ ((y.2.length : Int) :: y.2), g, cs', _, _, rfl, by omega, rfl, fun z o q => up _ _ (sH2 z o q) (fun z' => ?_) _, B2.keep (fun z o q hz => up _ _ q (fun z' => heS2 (z' ▸ hz)) _), heS2, hfS2, ?_, ?_, hall', ?_, ?_⟩
        · have h1 := s1 _ _ q
          rw [z', he] at h1; cases h1
        · rw [upd_same, List.map_append, List.length_map, List.append_assoc]; rfl
        · rw [hdt2]; exact hc'
        · rw [hans]
          show acc ++ PyFlat.told ((ScanNeutral.step st cl).2 :: PyFlat.played ScanNeutral.step (ScanNeutral.step st cl).1 cs') = _
          rw [hans2, Bt.told_cons, List.append_assoc]
        · rw [List.length_append, List.length_cons]; omega
    · have hge : ¬ i < l.length := fun z => cc (decide_eq_true z)
      have hnil : l.drop i = [] := List.drop_eq_nil_iff.mpr (by omega)
      rw [hnil] at hcalls
      have : cs = [] := by
        cases g <;> (injection hcalls with q; exact q.symm)
      subst this
      rw [show PyFlat.told (PyFlat.played ScanNeutral.step st []) = [] from rfl, List.append_nil] at hans
      refine ⟨_, rfl, k H' e ?_⟩
      rw [hans]; exact hacc
end
end Br
end
section
set_option Elab.async false
set_option linter.all false
set_option maxRecDepth 100000
set_option maxHeartbeats 1000000
namespace Br
open PySem PySem.Spec PyProof.Rows L2 Xc
section
variable (K : PySem.W.Frag)
def FnF (x : Str) (st : Stmt) : Prop := ∃ f fd, PySem.W.nsIn K mainGlobals x = some (some (.ref f)) ∧ Fun K x x st f fd
def MtF (C : Addr) (m qual : Str) (st : Stmt) : Prop := ∃ f fd, PySem.W.findIn K (.ref C) m = some (some (.ref f)) ∧ PySem.W.isFn K (.ref f) = true ∧ Fun K m qual st f fd
structure ClF (x : Str) (C : Addr) : Prop where
  ns : PySem.W.nsIn K mainGlobals x = some (some (.ref C))
  cl : Cls K C
  made : PySem.W.makesIn K C = true
  kp : PySem.W.keepIn K (.ref C) = true
def GvF (x : Str) (v : V) : Prop := ∃ u, PySem.W.nsIn K mainGlobals x = some (some u) ∧ RelV v u
def BlF (x : Str) : Prop := PySem.W.nsIn K mainGlobals x = some none
def SoF (so : Addr) : Prop := PySem.W.nsIn K mainGlobals "SORTS" = some (some (.ref so)) ∧ ∃ (t1 t2 t3 t4 t5 : Tok) (n : Nat) (sl : Array (Option Value)), K.lookup so = some ⟨.type "tuple", none, .seq #[.str "switch" t1, .str "lamp" t2, .str "coil" t3, .str "device" t4, .str "kick" t5] n, sl⟩
def DfF : Prop := ∃ f fd Td, PySem.W.nsIn K mainGlobals "take_new_name" = some (some (.ref f)) ∧ PySem.W.keepIn K (.ref f) = true ∧ FunD K "take_new_name" "take_new_name" (top 48) (.ref Td) f fd ∧
  ∃ (oc : Value) (od : Option Addr) (t : Tok) (n : Nat) (sl : Array (Option Value)), K.lookup Td = some ⟨oc, od, .seq #[.str "" t] n, sl⟩
abbrev sFltInit : Stmt := inClass (top 9) 0
structure FlF (C fI : Addr) : Prop where
  ns : PySem.W.nsIn K mainGlobals "Fault" = some (some (.ref C))
  kp : PySem.W.keepIn K (.ref C) = true
  xc : XCls K C fI
  fn : PySem.W.isFn K (.ref fI) = true
  fu : ∃ fd, Fun K "__init__" "Fault.__init__" sFltInit fI fd
end
theorem so_sq {K : PySem.W.Frag} {so : Addr} (h : SoF K so) : SqT K (fun _ => none) so [.str "switch", .str "lamp", .str "coil", .str "device", .str "kick"] := by
  obtain ⟨_, t1, t2, t3, t4, t5, n, sl, e⟩ := h
  exact .inr ⟨_, _, n, e, rfl, rfl, (by show 5 ≤ sizeLine; decide), .cons ⟨_, rfl⟩ (.cons ⟨_, rfl⟩ (.cons ⟨_, rfl⟩ (.cons ⟨_, rfl⟩ (.cons ⟨_, rfl⟩ .nil))))⟩
theorem flt_of {K : PySem.W.Frag} {h : Heap} {mg : Str → Option Value} {C fI : Addr} (X : K.In h) (G : h.Ns mainGlobals mg) (F : FlF K C fI) : Flt K mg C := by
  obtain ⟨fd, fu⟩ := F.fu
  exact ⟨⟨fI, fd, sFltInit, _, _, _, _, _, _, _, _, F.xc, F.fn, fu, rfl, ⟨rfl, rfl, rfl, by decide +kernel, rfl, by decide +kernel, by decide +kernel⟩, by decide +kernel, fu.binds (ps := ["self", "kind", "place"]) fun _ _ _ _ _ _ us hl => match us, hl with | [_, _, _], _ => rfl⟩, F.kp, PySem.W.mg_of X G F.ns⟩
theorem tx_mk {K : PySem.W.Frag} {h : Heap} {mg : Str → Option Value} {A : Ad} {fI : Addr} (X : K.In h) (G : h.Ns mainGlobals mg)
    (cF : FlF K A.F fI)
    (cL : ClF K "Line" A.L)
    (cT : ClF K "Table" A.T)
    (cS : ClF K "Switch" A.S)
    (cM : ClF K "Matrix" A.M)
    (cB : ClF K "Bench" A.B)
    (so : SoF K A.so)
    (nL_words : NoAttr K A.L "words")
    (nL_places : NoAttr K A.L "places")
    (nL_end : NoAttr K A.L "end")
    (nL_given : NoAttr K A.L "given")
    (nT_balls : NoAttr K A.T "balls")
    (nT_drained : NoAttr K A.T "drained")
    (nT_kicks : NoAttr K A.T "kicks")
    (nT_switches : NoAttr K A.T "switches")
    (nT_lamps : NoAttr K A.T "lamps")
    (nT_coils : NoAttr K A.T "coils")
    (nT_devices : NoAttr K A.T "devices")
    (nT_held : NoAttr K A.T "held")
    (nT_serving : NoAttr K A.T "serving")
    (nT_reached : NoAttr K A.T "reached")
    (nS_place : NoAttr K A.S "place")
    (nS_closing : NoAttr K A.S "closing")
    (nS_opening : NoAttr K A.S "opening")
    (nS_turned : NoAttr K A.S "turned")
    (nS_taken : NoAttr K A.S "taken")
    (nS_seen : NoAttr K A.S "seen")
    (nM_ticks : NoAttr K A.M "ticks")
    (nM_switch_at : NoAttr K A.M "switch_at")
    (nM_columns : NoAttr K A.M "columns")
    (nB_matrix : NoAttr K A.B "matrix")
    (gNOT_ENDED : GvF K "NOT_ENDED" ((.int 1)))
    (gWRONG_BYTE : GvF K "WRONG_BYTE" ((.int 2)))
    (gWRONG_WORD : GvF K "WRONG_WORD" ((.int 3)))
    (gWRONG_FORM : GvF K "WRONG_FORM" ((.int 4)))
    (gNOT_NEW : GvF K "NOT_NEW" ((.int 5)))
    (gUNKNOWN : GvF K "UNKNOWN" ((.int 6)))
    (gCLASHING : GvF K "CLASHING" ((.int 7)))
    (gFEW_DRAINS : GvF K "FEW_DRAINS" ((.int 8)))
    (gCOLUMNS : GvF K "COLUMNS" ((.int 8)))
    (gOPENED : GvF K "OPENED" ((.int 64)))
    (gNEWLINE : GvF K "NEWLINE" ((.int 10)))
    (gBLANK : GvF K "BLANK" ((.int 32)))
    (gLAST_SIGN : GvF K "LAST_SIGN" ((.int 126)))
    (gLETTERS : GvF K "LETTERS" ((.str "abcdefghijklmnopqrstuvwxyz")))
    (gDIGITS : GvF K "DIGITS" ((.str "0123456789")))
    (gUNDERSCORE : GvF K "UNDERSCORE" ((.str "_")))
    (gLONGEST_NAME : GvF K "LONGEST_NAME" ((.int 12)))
    (gLONGEST_NUMBER : GvF K "LONGEST_NUMBER" ((.int 4)))
    (gMOST_BALLS : GvF K "MOST_BALLS" ((.int 8)))
    (gLAST_PLACE : GvF K "LAST_PLACE" ((.int 63)))
    (gLAST_COIL_PLACE : GvF K "LAST_COIL_PLACE" ((.int 31)))
    (gMOST_SAMPLES : GvF K "MOST_SAMPLES" ((.int 31)))
    (gMOST_ON : GvF K "MOST_ON" ((.int 1023)))
    (gMOST_REST : GvF K "MOST_REST" ((.int 4095)))
    (gMOST_HOLD : GvF K "MOST_HOLD" ((.int 15)))
    (gMOST_DEVICES : GvF K "MOST_DEVICES" ((.int 8)))
    (gMOST_HELD : GvF K "MOST_HELD" ((.int 8)))
    (gMOST_KICKS : GvF K "MOST_KICKS" ((.int 8)))
    (gMOST_SPAN : GvF K "MOST_SPAN" ((.int 255)))
    (gNO_SWITCH_NAME : GvF K "NO_SWITCH_NAME" ((.str "drain")))
    (gNO_LAMP_NAME : GvF K "NO_LAMP_NAME" ((.str "loop")))
    (gBEGIN : GvF K "BEGIN" ((.int 1)))
    (gROWS : GvF K "ROWS" ((.int 2)))
    (gSOON : GvF K "SOON" ((.int 3)))
    (gSTANDS : GvF K "STANDS" ((.int 4)))
    (gTICK : GvF K "TICK" ((.int 5)))
    (gDONE : GvF K "DONE" ((.int 0)))
    (gNO_SUCH_PLACE : GvF K "NO_SUCH_PLACE" ((.int (-1))))
    (gTOO_LONG : GvF K "TOO_LONG" ((.int (-2))))
    (gNO_SWITCH : GvF K "NO_SWITCH" ((.int (-4))))
    (gFAULTY : GvF K "FAULTY" ((.int (-6))))
    (gNOTHING_BEGUN : GvF K "NOTHING_BEGUN" ((.int (-10))))
    (gMOST_BYTES : GvF K "MOST_BYTES" ((.int 16384)))
    (gMOST_ROWS : GvF K "MOST_ROWS" ((.int 65536)))
    (b_len : BlF K "len")
    (b_ord : BlF K "ord")
    (b_range : BlF K "range")
    (b_all : BlF K "all")
    (b_int : BlF K "int")
    (b_enumerate : BlF K "enumerate") : Tx K mg A := {
  flt := flt_of X G cF
  cL := cL.cl
  cT := cT.cl
  cS := cS.cl
  cM := cM.cl
  cB := cB.cl
  nL_words := nL_words
  nL_places := nL_places
  nL_end := nL_end
  nL_given := nL_given
  nT_balls := nT_balls
  nT_drained := nT_drained
  nT_kicks := nT_kicks
  nT_switches := nT_switches
  nT_lamps := nT_lamps
  nT_coils := nT_coils
  nT_devices := nT_devices
  nT_held := nT_held
  nT_serving := nT_serving
  nT_reached := nT_reached
  nS_place := nS_place
  nS_closing := nS_closing
  nS_opening := nS_opening
  nS_turned := nS_turned
  nS_taken := nS_taken
  nS_seen := nS_seen
  nM_ticks := nM_ticks
  nM_switch_at := nM_switch_at
  nM_columns := nM_columns
  nB_matrix := nB_matrix
  gNOT_ENDED := let ⟨u, a, b⟩ := gNOT_ENDED; ⟨u, PySem.W.mg_of X G a, b⟩
  gWRONG_BYTE := let ⟨u, a, b⟩ := gWRONG_BYTE; ⟨u, PySem.W.mg_of X G a, b⟩
  gWRONG_WORD := let ⟨u, a, b⟩ := gWRONG_WORD; ⟨u, PySem.W.mg_of X G a, b⟩
  gWRONG_FORM := let ⟨u, a, b⟩ := gWRONG_FORM; ⟨u, PySem.W.mg_of X G a, b⟩
  gNOT_NEW := let ⟨u, a, b⟩ := gNOT_NEW; ⟨u, PySem.W.mg_of X G a, b⟩
  gUNKNOWN := let ⟨u, a, b⟩ := gUNKNOWN; ⟨u, PySem.W.mg_of X G a, b⟩
  gCLASHING := let ⟨u, a, b⟩ := gCLASHING; ⟨u, PySem.W.mg_of X G a, b⟩
  gFEW_DRAINS := let ⟨u, a, b⟩ := gFEW_DRAINS; ⟨u, PySem.W.mg_of X G a, b⟩
  gCOLUMNS := let ⟨u, a, b⟩ := gCOLUMNS; ⟨u, PySem.W.mg_of X G a, b⟩
  gOPENED := let ⟨u, a, b⟩ := gOPENED; ⟨u, PySem.W.mg_of X G a, b⟩
  gNEWLINE := let ⟨u, a, b⟩ := gNEWLINE; ⟨u, PySem.W.mg_of X G a, b⟩
  gBLANK := let ⟨u, a, b⟩ := gBLANK; ⟨u, PySem.W.mg_of X G a, b⟩
  gLAST_SIGN := let ⟨u, a, b⟩ := gLAST_SIGN; ⟨u, PySem.W.mg_of X G a, b⟩
  gLETTERS := let ⟨u, a, b⟩ := gLETTERS; ⟨u, PySem.W.mg_of X G a, b⟩
  gDIGITS := let ⟨u, a, b⟩ := gDIGITS; ⟨u, PySem.W.mg_of X G a, b⟩
  gUNDERSCORE := let ⟨u, a, b⟩ := gUNDERSCORE; ⟨u, PySem.W.mg_of X G a, b⟩
  gLONGEST_NAME := let ⟨u, a, b⟩ := gLONGEST_NAME; ⟨u, PySem.W.mg_of X G a, b⟩
  gLONGEST_NUMBER := let ⟨u, a, b⟩ := gLONGEST_NUMBER; ⟨u, PySem.W.mg_of X G a, b⟩
  gMOST_BALLS := let ⟨u, a, b⟩ := gMOST_BALLS; ⟨u, PySem.W.mg_of X G a, b⟩
  gLAST_PLACE := let ⟨u, a, b⟩ := gLAST_PLACE; ⟨u, PySem.W.mg_of X G a, b⟩
  gLAST_COIL_PLACE := let ⟨u, a, b⟩ := gLAST_COIL_PLACE; ⟨u, PySem.W.mg_of X G a, b⟩
  gMOST_SAMPLES := let ⟨u, a, b⟩ := gMOST_SAMPLES; ⟨u, PySem.W.mg_of X G a, b⟩
  gMOST_ON := let ⟨u, a, b⟩ := gMOST_ON; ⟨u, PySem.W.mg_of X G a, b⟩
  gMOST_REST := let ⟨u, a, b⟩ := gMOST_REST; ⟨u, PySem.W.mg_of X G a, b⟩
  gMOST_HOLD := let ⟨u, a, b⟩ := gMOST_HOLD; ⟨u, PySem.W.mg_of X G a, b⟩
  gMOST_DEVICES := let ⟨u, a, b⟩ := gMOST_DEVICES; ⟨u, PySem.W.mg_of X G a, b⟩
  gMOST_HELD := let ⟨u, a, b⟩ := gMOST_HELD; ⟨u, PySem.W.mg_of X G a, b⟩
  gMOST_KICKS := let ⟨u, a, b⟩ := gMOST_KICKS; ⟨u, PySem.W.mg_of X G a, b⟩
  gMOST_SPAN := let ⟨u, a, b⟩ := gMOST_SPAN; ⟨u, PySem.W.mg_of X G a, b⟩
  gNO_SWITCH_NAME := let ⟨u, a, b⟩ := gNO_SWITCH_NAME; ⟨u, PySem.W.mg_of X G a, b⟩
  gNO_LAMP_NAME := let ⟨u, a, b⟩ := gNO_LAMP_NAME; ⟨u, PySem.W.mg_of X G a, b⟩
  gBEGIN := let ⟨u, a, b⟩ := gBEGIN; ⟨u, PySem.W.mg_of X G a, b⟩
  gROWS := let ⟨u, a, b⟩ := gROWS; ⟨u, PySem.W.mg_of X G a, b⟩
  gSOON := let ⟨u, a, b⟩ := gSOON; ⟨u, PySem.W.mg_of X G a, b⟩
  gSTANDS := let ⟨u, a, b⟩ := gSTANDS; ⟨u, PySem.W.mg_of X G a, b⟩
  gTICK := let ⟨u, a, b⟩ := gTICK; ⟨u, PySem.W.mg_of X G a, b⟩
  gDONE := let ⟨u, a, b⟩ := gDONE; ⟨u, PySem.W.mg_of X G a, b⟩
  gNO_SUCH_PLACE := let ⟨u, a, b⟩ := gNO_SUCH_PLACE; ⟨u, PySem.W.mg_of X G a, b⟩
  gTOO_LONG := let ⟨u, a, b⟩ := gTOO_LONG; ⟨u, PySem.W.mg_of X G a, b⟩
  gNO_SWITCH := let ⟨u, a, b⟩ := gNO_SWITCH; ⟨u, PySem.W.mg_of X G a, b⟩
  gFAULTY := let ⟨u, a, b⟩ := gFAULTY; ⟨u, PySem.W.mg_of X G a, b⟩
  gNOTHING_BEGUN := let ⟨u, a, b⟩ := gNOTHING_BEGUN; ⟨u, PySem.W.mg_of X G a, b⟩
  gMOST_BYTES := let ⟨u, a, b⟩ := gMOST_BYTES; ⟨u, PySem.W.mg_of X G a, b⟩
  gMOST_ROWS := let ⟨u, a, b⟩ := gMOST_ROWS; ⟨u, PySem.W.mg_of X G a, b⟩
  gSORTS := ⟨_, PySem.W.mg_of X G so.1, rfl⟩
  so := so_sq so
  soT := let ⟨_, _, _, _, _, _, _, _, e⟩ := so; ⟨_, e, rfl, rfl⟩
  b_len := PySem.W.ns_none_of X G b_len
  b_ord := PySem.W.ns_none_of X G b_ord
  b_range := PySem.W.ns_none_of X G b_range
  b_all := PySem.W.ns_none_of X G b_all
  b_int := PySem.W.ns_none_of X G b_int
  b_enumerate := PySem.W.ns_none_of X G b_enumerate }
end Br
end
section
set_option Elab.async false
set_option linter.all false
set_option maxRecDepth 100000
set_option maxHeartbeats 4000000
namespace Br
open PySem PySem.Spec PyProof.Rows L2 Xc
section
variable {P : Program} {w : World} {K : PySem.W.Frag} {mg : Str → Option Value} {base h : Heap} {A : Ad} {CX : CXT} {k : Nat} {ps : List Str} {sp : Sp} {C : Addr} {x m qual : Str} {st : Stmt}
theorem fn_mk (X : K.In h) (G : h.Ns mainGlobals mg) (F : FnF K x st) (ok : ∀ f fd, Fun K x x st f fd → FnOk P w K mg base CX k f fd ps sp)
    (hb : ∀ (kV doc pm : Value) (an : Option Addr) (cdv ct : Value) (us : List Value), us.length = ps.length → bindArgs (PySem.W.fnOf x x (defArgs st) (defBody st) (defScope st) .none kV doc pm an cdv ct) ⟨us, []⟩ = pure (ps.zip us)) : Fn P w K mg base CX x k ps [] sp := by
  obtain ⟨f, fd, a, F⟩ := F
  exact ⟨f, fd, [], PySem.W.mg_of X G a, F.kp, ok f fd F, F.binds hb, .nil⟩
theorem mt_mk (F : MtF K C m qual st) (ok : ∀ f fd, Fun K m qual st f fd → FnOk P w K mg base CX k f fd ps sp)
    (hb : ∀ (kV doc pm : Value) (an : Option Addr) (cdv ct : Value) (us : List Value), us.length = ps.length → bindArgs (PySem.W.fnOf m qual (defArgs st) (defBody st) (defScope st) .none kV doc pm an cdv ct) ⟨us, []⟩ = pure (ps.zip us)) : Mt P w K mg base CX C m k ps sp := by
  obtain ⟨f, fd, a, i, F⟩ := F
  exact ⟨f, fd, ⟨a, i, F.kp⟩, ok f fd F, F.binds hb⟩
theorem ck_mk (X : K.In h) (G : h.Ns mainGlobals mg) (c : ClF K x C) (F : MtF K C "__init__" qual st) (ok : ∀ f fd, Fun K "__init__" qual st f fd → FnOk P w K mg base CX k f fd ps sp)
    (hb : ∀ (kV doc pm : Value) (an : Option Addr) (cdv ct : Value) (us : List Value), us.length = ps.length → bindArgs (PySem.W.fnOf "__init__" qual (defArgs st) (defBody st) (defScope st) .none kV doc pm an cdv ct) ⟨us, []⟩ = pure (ps.zip us)) : Ck P w K mg base CX x C k ps sp := by
  obtain ⟨f, fd, a, i, F⟩ := F
  exact ⟨f, fd, PySem.W.mg_of X G c.ns, ⟨c.made, a, i, c.kp⟩, ok f fd F, F.binds hb⟩
theorem new_mk (X : K.In h) (G : h.Ns mainGlobals mg) (D : DfF K) (ok : ∀ f fd dV, FunD K "take_new_name" "take_new_name" (top 48) dV f fd → FnOk P w K mg base (CXF P w A.F) 5 f fd ["line", "known", "barred"] (spNew A)) : FNew P w K mg base A [] ∧ FNew P w K mg base A [.str ""] := by
  obtain ⟨f, fd, Td, a, kp, F, oc, od, t, n, sl, e⟩ := D
  have o := ok f fd _ F
  obtain ⟨oc', od', kV, doc, pm, an, cdv, ct, osl, rfl, lk, hcd⟩ := F.ex
  refine ⟨⟨f, _, [], PySem.W.mg_of X G a, kp, o, fun s us KX hl => ?_, .nil⟩, ⟨f, _, [.str "" t], PySem.W.mg_of X G a, kp, o, fun s us KX hl => ?_, .cons ⟨_, rfl⟩ .nil⟩⟩
  · match us, hl with
    | [u1, u2, u3], _ => exact PySem.W.binds_K KX rfl e rfl rfl rfl
  · have hl' : us.length = 2 := by
      rw [List.length_append] at hl
      exact Nat.succ.inj hl
    match us, hl' with
    | [u1, u2], _ => exact PySem.W.binds_K KX rfl e rfl rfl rfl
end
theorem all_mk {P : Program} {w : World} {K : PySem.W.Frag} {h : Heap} {mg : Str → Option Value} {A : Ad} {fa : Addr} (X : K.In h) (G : h.Ns mainGlobals mg) (hfa : mg "answers" = some (.ref fa)) (T : Tx K mg A) (cL : ClF K "Line" A.L) (cT : ClF K "Table" A.T) (cS : ClF K "Switch" A.S) (cM : ClF K "Matrix" A.M) (cB : ClF K "Bench" A.B)
    (h_fSg : FnF K "sign_of" (top 24))
    (h_fName : FnF K "is_name" (top 25))
    (h_fNum : FnF K "number_of" (top 26))
    (h_mMore : MtF K A.L "more" "Line.more" sMore)
    (h_mTake : MtF K A.L "take" "Line.take" sTake)
    (h_mRef : MtF K A.L "refuse_if" "Line.refuse_if" sRefuse)
    (h_mComes : MtF K A.L "comes" "Line.comes" sComes)
    (h_mFix : MtF K A.L "take_fixed" "Line.take_fixed" sFixed)
    (h_mIf : MtF K A.L "take_if" "Line.take_if" sIf)
    (h_mName : MtF K A.L "take_name" "Line.take_name" sTName)
    (h_mNum : MtF K A.L "take_number" "Line.take_number" sTNum)
    (h_mFin : MtF K A.L "finish" "Line.finish" sFinish)
    (h_ckL : MtF K A.L "__init__" "Line.__init__" sLnInit)
    (h_fEnd : FnF K "end_of_line" (top 28))
    (h_fChk : FnF K "check_bytes" (top 29))
    (h_fPls : FnF K "places_of_words" (top 30))
    (h_fLine : FnF K "line_at" (top 31))
    (h_new : DfF K)
    (h_fKn : FnF K "take_known_name" (top 49))
    (h_fReach : FnF K "reach" (top 50))
    (h_fPl : FnF K "take_place" (top 51))
    (h_fFree : FnF K "take_free_coil" (top 52))
    (h_fHold : FnF K "hold_switch" (top 53))
    (h_fHead : FnF K "read_head" (top 54))
    (h_f1 : FnF K "read_switch" (top 55))
    (h_f2 : FnF K "read_lamp" (top 56))
    (h_f3 : FnF K "read_coil" (top 57))
    (h_f4 : FnF K "read_device" (top 58))
    (h_f5 : FnF K "read_kick" (top 59))
    (h_fSort : FnF K "take_sort" (top 60))
    (h_fRest : FnF K "read_rest" (top 61))
    (h_ckT : MtF K A.T "__init__" "Table.__init__" sTbInit)
    (h_fTab : FnF K "read_table" (top 62))
    (h_ckS : MtF K A.S "__init__" "Switch.__init__" sSwInit)
    (h_mLack : MtF K A.S "lacking" "Switch.lacking" sLack)
    (h_mTurn : MtF K A.S "turn_by" "Switch.turn_by" sTurn)
    (h_mEv : MtF K A.S "event" "Switch.event" sEvent)
    (h_ckM : MtF K A.M "__init__" "Matrix.__init__" sMaInit)
    (h_mRow : MtF K A.M "take_row" "Matrix.take_row" sRow)
    (h_mTold : MtF K A.M "ticks_until_told" "Matrix.ticks_until_told" sTold)
    (h_ckB : MtF K A.B "__init__" "Bench.__init__" sBnInit)
    (h_mBegin : MtF K A.B "begin" "Bench.begin" sBegin)
    (h_mRows : MtF K A.B "rows" "Bench.rows" sRows)
    (h_mRf : MtF K A.B "refusal" "Bench.refusal" sRefusal)
    (h_mSoon : MtF K A.B "soon" "Bench.soon" sSoon)
    (h_mStands : MtF K A.B "stands" "Bench.stands" sStands)
    (h_mTick : MtF K A.B "tick" "Bench.tick" sTick)
    (h_fLen : FnF K "length_of_call" (top 78))
    (h_fAns : FnF K "answer" (top 79))
    (h_ans : FnF K "answers" (top 80)) :
    ∃ fd : FuncData, (∀ (s : Shared) (us : List Value), us.length = (["calls"] : List Str).length → BindsTo s fd ⟨us, []⟩ ((["calls"] : List Str).zip us)) ∧ ∀ base : Heap, K.In base → base.Ns mainGlobals mg → FnOk P w K mg base CX0 12 fa fd ["calls"] (spAnswers K) := by
  obtain ⟨f, fd, a, F⟩ := h_ans
  have e := hfa.symm.trans (PySem.W.mg_of X G a)
  cases e
  refine ⟨fd, ?_, fun base _ _ => ?_⟩
  · obtain ⟨oc, od, kV, doc, pm, an, cdv, ct, osl, rfl, lk, hcd⟩ := F.ex
    exact fun s us hu => match us, hu with | [_], _ => .of_eq rfl
  have fSg := fn_mk (P := P) (w := w) (base := base) X G h_fSg (fun f fd F => ok_sign T  F) (fun _ _ _ _ _ _ us hl => match us, hl with | [_], _ => rfl)
  have fName := fn_mk (P := P) (w := w) (base := base) X G h_fName (fun f fd F => ok_name T  F) (fun _ _ _ _ _ _ us hl => match us, hl with | [_], _ => rfl)
  have fNum := fn_mk (P := P) (w := w) (base := base) X G h_fNum (fun f fd F => ok_num T  F) (fun _ _ _ _ _ _ us hl => match us, hl with | [_], _ => rfl)
  have mMore := mt_mk (P := P) (w := w) (mg := mg) (base := base) h_mMore (fun f fd F => ok_more T  F) (fun _ _ _ _ _ _ us hl => match us, hl with | [_], _ => rfl)
  have mTake := mt_mk (P := P) (w := w) (mg := mg) (base := base) h_mTake (fun f fd F => ok_take T mMore F) (fun _ _ _ _ _ _ us hl => match us, hl with | [_], _ => rfl)
  have mRef := mt_mk (P := P) (w := w) (mg := mg) (base := base) h_mRef (fun f fd F => ok_refuse T  F) (fun _ _ _ _ _ _ us hl => match us, hl with | [_, _, _], _ => rfl)
  have mComes := mt_mk (P := P) (w := w) (mg := mg) (base := base) h_mComes (fun f fd F => ok_comes T mMore F) (fun _ _ _ _ _ _ us hl => match us, hl with | [_, _], _ => rfl)
  have mFix := mt_mk (P := P) (w := w) (mg := mg) (base := base) h_mFix (fun f fd F => ok_fixed T mTake mRef F) (fun _ _ _ _ _ _ us hl => match us, hl with | [_, _], _ => rfl)
  have mIf := mt_mk (P := P) (w := w) (mg := mg) (base := base) h_mIf (fun f fd F => ok_if T mTake mComes F) (fun _ _ _ _ _ _ us hl => match us, hl with | [_, _], _ => rfl)
  have mName := mt_mk (P := P) (w := w) (mg := mg) (base := base) h_mName (fun f fd F => ok_tname T mTake mRef fName F) (fun _ _ _ _ _ _ us hl => match us, hl with | [_], _ => rfl)
  have mNum := mt_mk (P := P) (w := w) (mg := mg) (base := base) h_mNum (fun f fd F => ok_tnum T mTake mRef fNum F) (fun _ _ _ _ _ _ us hl => match us, hl with | [_, _, _], _ => rfl)
  have mFin := mt_mk (P := P) (w := w) (mg := mg) (base := base) h_mFin (fun f fd F => ok_finish T mMore F) (fun _ _ _ _ _ _ us hl => match us, hl with | [_], _ => rfl)
  have ckL := ck_mk (P := P) (w := w) (base := base) X G cL h_ckL (fun f fd F => ok_lninit T  F) (fun _ _ _ _ _ _ us hl => match us, hl with | [_, _, _, _], _ => rfl)
  have fEnd := fn_mk (P := P) (w := w) (base := base) X G h_fEnd (fun f fd F => ok_end T  F) (fun _ _ _ _ _ _ us hl => match us, hl with | [_, _], _ => rfl)
  have fChk := fn_mk (P := P) (w := w) (base := base) X G h_fChk (fun f fd F => ok_chk T  F) (fun _ _ _ _ _ _ us hl => match us, hl with | [_, _, _], _ => rfl)
  have fPls := fn_mk (P := P) (w := w) (base := base) X G h_fPls (fun f fd F => ok_places T  F) (fun _ _ _ _ _ _ us hl => match us, hl with | [_, _, _], _ => rfl)
  have fLine := fn_mk (P := P) (w := w) (base := base) X G h_fLine (fun f fd F => ok_lineat T fEnd fChk fPls fSg ckL F) (fun _ _ _ _ _ _ us hl => match us, hl with | [_, _], _ => rfl)
  obtain ⟨fNew, fNew1⟩ := new_mk (P := P) (w := w) (base := base) (A := A) X G h_new (fun f fd dV F => ok_new T mName mRef F)
  have fKn := fn_mk (P := P) (w := w) (base := base) X G h_fKn (fun f fd F => ok_known T mName mRef F) (fun _ _ _ _ _ _ us hl => match us, hl with | [_, _], _ => rfl)
  have fReach := fn_mk (P := P) (w := w) (base := base) X G h_fReach (fun f fd F => ok_reach T mRef F) (fun _ _ _ _ _ _ us hl => match us, hl with | [_, _, _, _], _ => rfl)
  have fPl := fn_mk (P := P) (w := w) (base := base) X G h_fPl (fun f fd F => ok_place T mFix mNum fReach F) (fun _ _ _ _ _ _ us hl => match us, hl with | [_, _, _, _], _ => rfl)
  have fFree := fn_mk (P := P) (w := w) (base := base) X G h_fFree (fun f fd F => ok_free T fKn mRef F) (fun _ _ _ _ _ _ us hl => match us, hl with | [_, _], _ => rfl)
  have fHold := fn_mk (P := P) (w := w) (base := base) X G h_fHold (fun f fd F => ok_hold T fKn mRef F) (fun _ _ _ _ _ _ us hl => match us, hl with | [_, _], _ => rfl)
  have fHead := fn_mk (P := P) (w := w) (base := base) X G h_fHead (fun f fd F => ok_head T mFix mNum mName F) (fun _ _ _ _ _ _ us hl => match us, hl with | [_, _], _ => rfl)
  have f1 := fn_mk (P := P) (w := w) (base := base) X G h_f1 (fun f fd F => ok_switch T fNew fPl mFix mNum mIf F) (fun _ _ _ _ _ _ us hl => match us, hl with | [_, _], _ => rfl)
  have f2 := fn_mk (P := P) (w := w) (base := base) X G h_f2 (fun f fd F => ok_lamp T fNew fPl F) (fun _ _ _ _ _ _ us hl => match us, hl with | [_, _], _ => rfl)
  have f3 := fn_mk (P := P) (w := w) (base := base) X G h_f3 (fun f fd F => ok_coil T fNew1 fPl mFix mNum mIf F) (fun _ _ _ _ _ _ us hl => match us, hl with | [_, _], _ => rfl)
  have f4 := fn_mk (P := P) (w := w) (base := base) X G h_f4 (fun f fd F => ok_device T fNew1 fFree fHold mFix mIf mMore mComes F) (fun _ _ _ _ _ _ us hl => match us, hl with | [_, _], _ => rfl)
  have f5 := fn_mk (P := P) (w := w) (base := base) X G h_f5 (fun f fd F => ok_kick T fKn fReach fFree mRef mFix mNum mIf F) (fun _ _ _ _ _ _ us hl => match us, hl with | [_, _], _ => rfl)
  have fSort := fn_mk (P := P) (w := w) (base := base) X G h_fSort (fun f fd F => ok_sort T mTake mRef F) (fun _ _ _ _ _ _ us hl => match us, hl with | [_, _, _], _ => rfl)
  have fRest := fn_mk (P := P) (w := w) (base := base) X G h_fRest (fun f fd F => ok_rest T f1 f2 f3 f4 f5 F) (fun _ _ _ _ _ _ us hl => match us, hl with | [_, _, _], _ => rfl)
  have ckT := ck_mk (P := P) (w := w) (base := base) X G cT h_ckT (fun f fd F => ok_tbinit T  F) (fun _ _ _ _ _ _ us hl => match us, hl with | [_], _ => rfl)
  have fTab := fn_mk (P := P) (w := w) (base := base) X G h_fTab (fun f fd F => ok_table T ckT fLine fHead mFin fSort fRest F) (fun _ _ _ _ _ _ us hl => match us, hl with | [_], _ => rfl)
  have ckS := ck_mk (P := P) (w := w) (base := base) X G cS h_ckS (fun f fd F => ok_swinit T  F) (fun _ _ _ _ _ _ us hl => match us, hl with | [_, _, _, _, _], _ => rfl)
  have mLack := mt_mk (P := P) (w := w) (mg := mg) (base := base) h_mLack (fun f fd F => ok_lack T  F) (fun _ _ _ _ _ _ us hl => match us, hl with | [_], _ => rfl)
  have mTurn := mt_mk (P := P) (w := w) (mg := mg) (base := base) h_mTurn (fun f fd F => ok_turn T mLack F) (fun _ _ _ _ _ _ us hl => match us, hl with | [_, _], _ => rfl)
  have mEv := mt_mk (P := P) (w := w) (mg := mg) (base := base) h_mEv (fun f fd F => ok_event T  F) (fun _ _ _ _ _ _ us hl => match us, hl with | [_], _ => rfl)
  have ckM := ck_mk (P := P) (w := w) (base := base) X G cM h_ckM (fun f fd F => ok_mainit T ckS F) (fun _ _ _ _ _ _ us hl => match us, hl with | [_, _], _ => rfl)
  have mRow := mt_mk (P := P) (w := w) (mg := mg) (base := base) h_mRow (fun f fd F => ok_row T mTurn mEv F) (fun _ _ _ _ _ _ us hl => match us, hl with | [_, _], _ => rfl)
  have mTold := mt_mk (P := P) (w := w) (mg := mg) (base := base) h_mTold (fun f fd F => ok_told T mLack F) (fun _ _ _ _ _ _ us hl => match us, hl with | [_, _], _ => rfl)
  have ckB := ck_mk (P := P) (w := w) (base := base) X G cB h_ckB (fun f fd F => ok_bninit T  F) (fun _ _ _ _ _ _ us hl => match us, hl with | [_], _ => rfl)
  have mBegin := mt_mk (P := P) (w := w) (mg := mg) (base := base) h_mBegin (fun f fd F => ok_begin T fTab ckM F) (fun _ _ _ _ _ _ us hl => match us, hl with | [_, _], _ => rfl)
  have mRows := mt_mk (P := P) (w := w) (mg := mg) (base := base) h_mRows (fun f fd F => ok_rows T mRow F) (fun _ _ _ _ _ _ us hl => match us, hl with | [_, _], _ => rfl)
  have mRf := mt_mk (P := P) (w := w) (mg := mg) (base := base) h_mRf (fun f fd F => ok_refusal T  F) (fun _ _ _ _ _ _ us hl => match us, hl with | [_, _], _ => rfl)
  have mSoon := mt_mk (P := P) (w := w) (mg := mg) (base := base) h_mSoon (fun f fd F => ok_soon T mRf mTold F) (fun _ _ _ _ _ _ us hl => match us, hl with | [_, _], _ => rfl)
  have mStands := mt_mk (P := P) (w := w) (mg := mg) (base := base) h_mStands (fun f fd F => ok_stands T mRf F) (fun _ _ _ _ _ _ us hl => match us, hl with | [_, _], _ => rfl)
  have mTick := mt_mk (P := P) (w := w) (mg := mg) (base := base) h_mTick (fun f fd F => ok_tick T  F) (fun _ _ _ _ _ _ us hl => match us, hl with | [_], _ => rfl)
  have fLen := fn_mk (P := P) (w := w) (base := base) X G h_fLen (fun f fd F => ok_len T  F) (fun _ _ _ _ _ _ us hl => match us, hl with | [_, _], _ => rfl)
  have fAns := fn_mk (P := P) (w := w) (base := base) X G h_fAns (fun f fd F => ok_answer T mBegin mRows mSoon mStands mTick F) (fun _ _ _ _ _ _ us hl => match us, hl with | [_, _], _ => rfl)
  exact ok_answers T ckB fLen fAns F
end Br
end
section
set_option Elab.async false
set_option linter.all false
set_option maxRecDepth 100000
set_option maxHeartbeats 4000000
namespace Br
open PySem PySem.Spec PyProof.Rows L2 Xc
theorem all_in {P : Program} {w : World} {K : PySem.W.Frag} {h : Heap} {mg : Str → Option Value} {fa aF aL aT aS aM aB aso fI : Addr} (X : K.In h) (G : h.Ns mainGlobals mg) (hfa : mg "answers" = some (.ref fa))
    (cF : FlF K aF fI)
    (cL : ClF K "Line" aL)
    (cT : ClF K "Table" aT)
    (cS : ClF K "Switch" aS)
    (cM : ClF K "Matrix" aM)
    (cB : ClF K "Bench" aB)
    (so : SoF K aso)
    (nL_words : NoAttr K aL "words")
    (nL_places : NoAttr K aL "places")
    (nL_end : NoAttr K aL "end")
    (nL_given : NoAttr K aL "given")
    (nT_balls : NoAttr K aT "balls")
    (nT_drained : NoAttr K aT "drained")
    (nT_kicks : NoAttr K aT "kicks")
    (nT_switches : NoAttr K aT "switches")
    (nT_lamps : NoAttr K aT "lamps")
    (nT_coils : NoAttr K aT "coils")
    (nT_devices : NoAttr K aT "devices")
    (nT_held : NoAttr K aT "held")
    (nT_serving : NoAttr K aT "serving")
    (nT_reached : NoAttr K aT "reached")
    (nS_place : NoAttr K aS "place")
    (nS_closing : NoAttr K aS "closing")
    (nS_opening : NoAttr K aS "opening")
    (nS_turned : NoAttr K aS "turned")
    (nS_taken : NoAttr K aS "taken")
    (nS_seen : NoAttr K aS "seen")
    (nM_ticks : NoAttr K aM "ticks")
    (nM_switch_at : NoAttr K aM "switch_at")
    (nM_columns : NoAttr K aM "columns")
    (nB_matrix : NoAttr K aB "matrix")
    (gNOT_ENDED : GvF K "NOT_ENDED" ((.int 1)))
    (gWRONG_BYTE : GvF K "WRONG_BYTE" ((.int 2)))
    (gWRONG_WORD : GvF K "WRONG_WORD" ((.int 3)))
    (gWRONG_FORM : GvF K "WRONG_FORM" ((.int 4)))
    (gNOT_NEW : GvF K "NOT_NEW" ((.int 5)))
    (gUNKNOWN : GvF K "UNKNOWN" ((.int 6)))
    (gCLASHING : GvF K "CLASHING" ((.int 7)))
    (gFEW_DRAINS : GvF K "FEW_DRAINS" ((.int 8)))
    (gCOLUMNS : GvF K "COLUMNS" ((.int 8)))
    (gOPENED : GvF K "OPENED" ((.int 64)))
    (gNEWLINE : GvF K "NEWLINE" ((.int 10)))
    (gBLANK : GvF K "BLANK" ((.int 32)))
    (gLAST_SIGN : GvF K "LAST_SIGN" ((.int 126)))
    (gLETTERS : GvF K "LETTERS" ((.str "abcdefghijklmnopqrstuvwxyz")))
    (gDIGITS : GvF K "DIGITS" ((.str "0123456789")))
    (gUNDERSCORE : GvF K "UNDERSCORE" ((.str "_")))
    (gLONGEST_NAME : GvF K "LONGEST_NAME" ((.int 12)))
    (gLONGEST_NUMBER : GvF K "LONGEST_NUMBER" ((.int 4)))
    (gMOST_BALLS : GvF K "MOST_BALLS" ((.int 8)))
    (gLAST_PLACE : GvF K "LAST_PLACE" ((.int 63)))
    (gLAST_COIL_PLACE : GvF K "LAST_COIL_PLACE" ((.int 31)))
    (gMOST_SAMPLES : GvF K "MOST_SAMPLES" ((.int 31)))
    (gMOST_ON : GvF K "MOST_ON" ((.int 1023)))
    (gMOST_REST : GvF K "MOST_REST" ((.int 4095)))
    (gMOST_HOLD : GvF K "MOST_HOLD" ((.int 15)))
    (gMOST_DEVICES : GvF K "MOST_DEVICES" ((.int 8)))
    (gMOST_HELD : GvF K "MOST_HELD" ((.int 8)))
    (gMOST_KICKS : GvF K "MOST_KICKS" ((.int 8)))
    (gMOST_SPAN : GvF K "MOST_SPAN" ((.int 255)))
    (gNO_SWITCH_NAME : GvF K "NO_SWITCH_NAME" ((.str "drain")))
    (gNO_LAMP_NAME : GvF K "NO_LAMP_NAME" ((.str "loop")))
    (gBEGIN : GvF K "BEGIN" ((.int 1)))
    (gROWS : GvF K "ROWS" ((.int 2)))
    (gSOON : GvF K "SOON" ((.int 3)))
    (gSTANDS : GvF K "STANDS" ((.int 4)))
    (gTICK : GvF K "TICK" ((.int 5)))
    (gDONE : GvF K "DONE" ((.int 0)))
    (gNO_SUCH_PLACE : GvF K "NO_SUCH_PLACE" ((.int (-1))))
    (gTOO_LONG : GvF K "TOO_LONG" ((.int (-2))))
    (gNO_SWITCH : GvF K "NO_SWITCH" ((.int (-4))))
    (gFAULTY : GvF K "FAULTY" ((.int (-6))))
    (gNOTHING_BEGUN : GvF K "NOTHING_BEGUN" ((.int (-10))))
    (gMOST_BYTES : GvF K "MOST_BYTES" ((.int 16384)))
    (gMOST_ROWS : GvF K "MOST_ROWS" ((.int 65536)))
    (b_len : BlF K "len")
    (b_ord : BlF K "ord")
    (b_range : BlF K "range")
    (b_all : BlF K "all")
    (b_int : BlF K "int")
    (b_enumerate : BlF K "enumerate")
    (h_fSg : FnF K "sign_of" (top 24))
    (h_fName : FnF K "is_name" (top 25))
    (h_fNum : FnF K "number_of" (top 26))
    (h_mMore : MtF K aL "more" "Line.more" sMore)
    (h_mTake : MtF K aL "take" "Line.take" sTake)
    (h_mRef : MtF K aL "refuse_if" "Line.refuse_if" sRefuse)
    (h_mComes : MtF K aL "comes" "Line.comes" sComes)
    (h_mFix : MtF K aL "take_fixed" "Line.take_fixed" sFixed)
    (h_mIf : MtF K aL "take_if" "Line.take_if" sIf)
    (h_mName : MtF K aL "take_name" "Line.take_name" sTName)
    (h_mNum : MtF K aL "take_number" "Line.take_number" sTNum)
    (h_mFin : MtF K aL "finish" "Line.finish" sFinish)
    (h_ckL : MtF K aL "__init__" "Line.__init__" sLnInit)
    (h_fEnd : FnF K "end_of_line" (top 28))
    (h_fChk : FnF K "check_bytes" (top 29))
    (h_fPls : FnF K "places_of_words" (top 30))
    (h_fLine : FnF K "line_at" (top 31))
    (h_new : DfF K)
    (h_fKn : FnF K "take_known_name" (top 49))
    (h_fReach : FnF K "reach" (top 50))
    (h_fPl : FnF K "take_place" (top 51))
    (h_fFree : FnF K "take_free_coil" (top 52))
    (h_fHold : FnF K "hold_switch" (top 53))
    (h_fHead : FnF K "read_head" (top 54))
    (h_f1 : FnF K "read_switch" (top 55))
    (h_f2 : FnF K "read_lamp" (top 56))
    (h_f3 : FnF K "read_coil" (top 57))
    (h_f4 : FnF K "read_device" (top 58))
    (h_f5 : FnF K "read_kick" (top 59))
    (h_fSort : FnF K "take_sort" (top 60))
    (h_fRest : FnF K "read_rest" (top 61))
    (h_ckT : MtF K aT "__init__" "Table.__init__" sTbInit)
    (h_fTab : FnF K "read_table" (top 62))
    (h_ckS : MtF K aS "__init__" "Switch.__init__" sSwInit)
    (h_mLack : MtF K aS "lacking" "Switch.lacking" sLack)
    (h_mTurn : MtF K aS "turn_by" "Switch.turn_by" sTurn)
    (h_mEv : MtF K aS "event" "Switch.event" sEvent)
    (h_ckM : MtF K aM "__init__" "Matrix.__init__" sMaInit)
    (h_mRow : MtF K aM "take_row" "Matrix.take_row" sRow)
    (h_mTold : MtF K aM "ticks_until_told" "Matrix.ticks_until_told" sTold)
    (h_ckB : MtF K aB "__init__" "Bench.__init__" sBnInit)
    (h_mBegin : MtF K aB "begin" "Bench.begin" sBegin)
    (h_mRows : MtF K aB "rows" "Bench.rows" sRows)
    (h_mRf : MtF K aB "refusal" "Bench.refusal" sRefusal)
    (h_mSoon : MtF K aB "soon" "Bench.soon" sSoon)
    (h_mStands : MtF K aB "stands" "Bench.stands" sStands)
    (h_mTick : MtF K aB "tick" "Bench.tick" sTick)
    (h_fLen : FnF K "length_of_call" (top 78))
    (h_fAns : FnF K "answer" (top 79))
    (h_ans : FnF K "answers" (top 80)) :
    ∃ fd : FuncData, (∀ (s : Shared) (us : List Value), us.length = (["calls"] : List Str).length → BindsTo s fd ⟨us, []⟩ ((["calls"] : List Str).zip us)) ∧ ∀ base : Heap, K.In base → base.Ns mainGlobals mg → FnOk P w K mg base CX0 12 fa fd ["calls"] (spAnswers K) :=
  all_mk (A := ⟨aF, aL, aT, aS, aM, aB, aso⟩) X G hfa (tx_mk (fI := fI) X G cF cL cT cS cM cB so nL_words nL_places nL_end nL_given nT_balls nT_drained nT_kicks nT_switches nT_lamps nT_coils nT_devices nT_held nT_serving nT_reached nS_place nS_closing nS_opening nS_turned nS_taken nS_seen nM_ticks nM_switch_at nM_columns nB_matrix gNOT_ENDED gWRONG_BYTE gWRONG_WORD gWRONG_FORM gNOT_NEW gUNKNOWN gCLASHING gFEW_DRAINS gCOLUMNS gOPENED gNEWLINE gBLANK gLAST_SIGN gLETTERS gDIGITS gUNDERSCORE gLONGEST_NAME gLONGEST_NUMBER gMOST_BALLS gLAST_PLACE gLAST_COIL_PLACE gMOST_SAMPLES gMOST_ON gMOST_REST gMOST_HOLD gMOST_DEVICES gMOST_HELD gMOST_KICKS gMOST_SPAN gNO_SWITCH_NAME gNO_LAMP_NAME gBEGIN gROWS gSOON gSTANDS gTICK gDONE gNO_SUCH_PLACE gTOO_LONG gNO_SWITCH gFAULTY gNOTHING_BEGUN gMOST_BYTES gMOST_ROWS b_len b_ord b_range b_all b_int b_enumerate) cL cT cS cM cB h_fSg h_fName h_fNum h_mMore h_mTake h_mRef h_mComes h_mFix h_mIf h_mName h_mNum h_mFin h_ckL h_fEnd h_fChk h_fPls h_fLine h_new h_fKn h_fReach h_fPl h_fFree h_fHold h_fHead h_f1 h_f2 h_f3 h_f4 h_f5 h_fSort h_fRest h_ckT h_fTab h_ckS h_mLack h_mTurn h_mEv h_ckM h_mRow h_mTold h_ckB h_mBegin h_mRows h_mRf h_mSoon h_mStands h_mTick h_fLen h_fAns h_ans
section
variable {K : PySem.W.Frag} {f fI C N so Td : Addr} {x m qual nm q : Str} {st : Stmt} {v : V} {u : Value} {oc kV doc pm cdv ct : Value} {od an : Option Addr} {osl sl : Array (Option Value)} {t1 t2 t3 t4 t5 : Tok} {n : Nat}
  {bs : List Value} {sn : List Str} {sub : List Value} {ab : Bool} {col : Option Bool} {dd : Option Addr} {k0 k1 k2 k3 k5 : Option Value} {oc2 : Value} {od2 : Option Addr}
theorem gv_in (a : PySem.W.nsIn K mainGlobals x = some (some u)) (b : RelV v u) : GvF K x v := ⟨u, a, b⟩
theorem fn_in (a : PySem.W.nsIn K mainGlobals x = some (some (.ref f))) (l : K.lookup f = some ⟨oc, od, .func (PySem.W.fnOf x x (defArgs st) (defBody st) (defScope st) .none kV doc pm an cdv ct), osl⟩)
    (c : PySem.W.codeIn K cdv x = true) (k : PySem.W.keepIn K (.ref f) = true) : FnF K x st := ⟨f, _, a, fun_mk l c k⟩
theorem mt_in (a : PySem.W.findIn K (.ref C) m = some (some (.ref f))) (i : PySem.W.isFn K (.ref f) = true) (l : K.lookup f = some ⟨oc, od, .func (PySem.W.fnOf m qual (defArgs st) (defBody st) (defScope st) .none kV doc pm an cdv ct), osl⟩)
    (c : PySem.W.codeIn K cdv qual = true) (k : PySem.W.keepIn K (.ref f) = true) : MtF K C m qual st := ⟨f, _, a, i, fun_mk l c k⟩
theorem so_in (a : PySem.W.nsIn K mainGlobals "SORTS" = some (some (.ref so))) (b : K.lookup so = some ⟨.type "tuple", none, .seq #[.str "switch" t1, .str "lamp" t2, .str "coil" t3, .str "device" t4, .str "kick" t5] n, sl⟩) : SoF K so := ⟨a, t1, t2, t3, t4, t5, n, sl, b⟩
theorem fl_in (a : PySem.W.nsIn K mainGlobals "Fault" = some (some (.ref C))) (b : PySem.W.keepIn K (.ref C) = true) (l : K.lookup C = some (excClassObj nm q C N bs bmE true sn sub ab col dd k0 k1 k2 k3 k5 "Exception.__new__"))
    (n1 : PySem.W.nsOkIn K N = true) (n2 : PySem.W.nsIn K N "__init__" = some (some (.ref fI))) (n3 : PySem.W.nsIn K N "__setattr__" = some none) (n4 : PySem.W.nsIn K N "kind" = some none) (n5 : PySem.W.nsIn K N "place" = some none)
    (n6 : PySem.W.nsIn K N "__getattribute__" = some none) (n7 : PySem.W.nsIn K N "__getattr__" = some none) (i : PySem.W.isFn K (.ref fI) = true)
    (fl : K.lookup fI = some ⟨oc, od, .func (PySem.W.fnOf "__init__" "Fault.__init__" (defArgs sFltInit) (defBody sFltInit) (defScope sFltInit) .none kV doc pm an cdv ct), osl⟩) (c : PySem.W.codeIn K cdv "Fault.__init__" = true) (k : PySem.W.keepIn K (.ref fI) = true) : FlF K C fI :=
  ⟨a, b, ⟨nm, q, N, bs, sn, sub, ab, col, dd, k0, k1, k2, k3, k5, l, n1, n2, n3, n4, n5, n6, n7⟩, i, ⟨_, fun_mk fl c k⟩⟩
theorem df_in (a : PySem.W.nsIn K mainGlobals "take_new_name" = some (some (.ref f))) (k : PySem.W.keepIn K (.ref f) = true) (l : K.lookup f = some ⟨oc, od, .func (PySem.W.fnOf "take_new_name" "take_new_name" (defArgs (top 48)) (defBody (top 48)) (defScope (top 48)) (.ref Td) kV doc pm an cdv ct), osl⟩)
    (c : PySem.W.codeIn K cdv "take_new_name" = true) (e : K.lookup Td = some ⟨oc2, od2, .seq #[.str "" t1] n, sl⟩) : DfF K := ⟨f, _, Td, a, k, ⟨oc, od, kV, doc, pm, an, cdv, ct, osl, rfl, l, c⟩, oc2, od2, t1, n, sl, e⟩
end
end Br
end
set_option Elab.async false
set_option linter.all false
set_option maxRecDepth 100000
set_option maxHeartbeats 0
open PySem PySem.W PyProof.Rows
theorem PySem.Challenge.cw_bouncetable_s01_answers_holds : PySem.Challenge.rw_bouncetable_s01_answers.Holds := by
  w_on
  refine holds_os (q := Br.vw) (loose := ["take_new_name"]) (Xt := fun s => xlAt Br.vw [] s && recOk [] s) (XP := XL Br.vw []) (Yf := Hook.obs Br.HK) (Ya := Hook.val Br.HK) (YP := Hook.says Br.HK) (N := 6664) Br.left (Hook.of Br.HK) (Hook.keeps Br.HK) (fun s e => xl_of s (Bool.and_eq_true_iff.mp e).1) XL.keeps (by rfl) (by rfl) (by rfl) (fun s e => recFacts_of (Bool.and_eq_true_iff.mp e).2) os_shapes (by decide +kernel) (by decide +kernel) ⟨rfl, rfl, rfl, rfl, rfl, by decide +kernel⟩ ?hw ?hc
  case hw => exact ⟨[.list [.int 5]], by decide +kernel, by decide +kernel⟩
  case hc =>
    refine L2.walk_specK (K := Br.KF) (r := PySem.Challenge.rw_bouncetable_s01_answers) (k := 12) (CX := L2.CX0) (ps := ["calls"]) (sp := Br.spAnswers) (by decide +kernel) rfl rfl ⟨rfl, by decide, by decide⟩ (fun w h Y => PySem.W.kIn_of Y) ?F ?S (fun _ _ _ _ z => z)
    case F =>
      k_fillS
      intro w mg fa h Y KX G hmg
      refine' Br.all_in KX G hmg ?cF ?cL ?cT ?cS ?cM ?cB ?so ?nL_words ?nL_places ?nL_end ?nL_given ?nT_balls ?nT_drained ?nT_kicks ?nT_switches ?nT_lamps ?nT_coils ?nT_devices ?nT_held ?nT_serving ?nT_reached ?nS_place ?nS_closing ?nS_opening ?nS_turned ?nS_taken ?nS_seen ?nM_ticks ?nM_switch_at ?nM_columns ?nB_matrix ?gNOT_ENDED ?gWRONG_BYTE ?gWRONG_WORD ?gWRONG_FORM ?gNOT_NEW ?gUNKNOWN ?gCLASHING ?gFEW_DRAINS ?gCOLUMNS ?gOPENED ?gNEWLINE ?gBLANK ?gLAST_SIGN ?gLETTERS ?gDIGITS ?gUNDERSCORE ?gLONGEST_NAME ?gLONGEST_NUMBER ?gMOST_BALLS ?gLAST_PLACE ?gLAST_COIL_PLACE ?gMOST_SAMPLES ?gMOST_ON ?gMOST_REST ?gMOST_HOLD ?gMOST_DEVICES ?gMOST_HELD ?gMOST_KICKS ?gMOST_SPAN ?gNO_SWITCH_NAME ?gNO_LAMP_NAME ?gBEGIN ?gROWS ?gSOON ?gSTANDS ?gTICK ?gDONE ?gNO_SUCH_PLACE ?gTOO_LONG ?gNO_SWITCH ?gFAULTY ?gNOTHING_BEGUN ?gMOST_BYTES ?gMOST_ROWS ?b_len ?b_ord ?b_range ?b_all ?b_int ?b_enumerate ?h_fSg ?h_fName ?h_fNum ?h_mMore ?h_mTake ?h_mRef ?h_mComes ?h_mFix ?h_mIf ?h_mName ?h_mNum ?h_mFin ?h_ckL ?h_fEnd ?h_fChk ?h_fPls ?h_fLine ?h_new ?h_fKn ?h_fReach ?h_fPl ?h_fFree ?h_fHold ?h_fHead ?h_f1 ?h_f2 ?h_f3 ?h_f4 ?h_f5 ?h_fSort ?h_fRest ?h_ckT ?h_fTab ?h_ckS ?h_mLack ?h_mTurn ?h_mEv ?h_ckM ?h_mRow ?h_mTold ?h_ckB ?h_mBegin ?h_mRows ?h_mRf ?h_mSoon ?h_mStands ?h_mTick ?h_fLen ?h_fAns ?h_ans
      (case cL => (refine' ⟨?a, ⟨?b, ?c, ?d, ?e⟩, ?f, ?g⟩; (case a => k_is); (case b => k_is); (case c => k_is); (case d => k_is); (case e => k_is); (case f => k_is); (case g => k_is)))
      (case cT => (refine' ⟨?a, ⟨?b, ?c, ?d, ?e⟩, ?f, ?g⟩; (case a => k_is); (case b => k_is); (case c => k_is); (case d => k_is); (case e => k_is); (case f => k_is); (case g => k_is)))
      (case cS => (refine' ⟨?a, ⟨?b, ?c, ?d, ?e⟩, ?f, ?g⟩; (case a => k_is); (case b => k_is); (case c => k_is); (case d => k_is); (case e => k_is); (case f => k_is); (case g => k_is)))
      (case cM => (refine' ⟨?a, ⟨?b, ?c, ?d, ?e⟩, ?f, ?g⟩; (case a => k_is); (case b => k_is); (case c => k_is); (case d => k_is); (case e => k_is); (case f => k_is); (case g => k_is)))
      (case cB => (refine' ⟨?a, ⟨?b, ?c, ?d, ?e⟩, ?f, ?g⟩; (case a => k_is); (case b => k_is); (case c => k_is); (case d => k_is); (case e => k_is); (case f => k_is); (case g => k_is)))
      (case cF => refine' Br.fl_in ?a ?b ?l ?n1 ?n2 ?n3 ?n4 ?n5 ?n6 ?n7 ?i ?fl ?c ?k; (case a => k_is); (case b => k_is); (case l => k_is); (case n1 => kernel_rfl); (case n2 => k_is); (case n3 => k_is); (case n4 => k_is); (case n5 => k_is); (case n6 => k_is); (case n7 => k_is); (case i => k_is); (case fl => k_is); (case c => k_is); (case k => k_is))
      (case so => refine' Br.so_in ?a ?b; (case a => k_is); (case b => k_is))
      (case h_new => refine' Br.df_in ?a ?k ?l ?c ?e; (case a => k_is); (case k => k_is); (case l => k_is); (case c => k_is); (case e => k_is))
      all_goals first
        | (unfold L2.NoAttr; k_is)
        | (unfold Br.BlF; k_is)
        | (refine' Br.gv_in ?a ?b; (case a => k_is); (case b => first | exact ⟨_, rfl⟩ | exact rfl))
        | (refine' Br.fn_in ?a ?l ?c ?k; (case a => k_is); (case l => k_is); (case c => k_is); (case k => k_is))
        | (refine' Br.mt_in ?a ?i ?l ?c ?k; (case a => k_is); (case i => k_is); (case l => k_is); (case c => k_is); (case k => k_is))
    case S =>
      intro K H xs a hO hwi hask hx
      cases hx with
      | cons h1 h2 =>
        cases h2
        cases h1 with
        | lst hs ha =>
          have e := L2.ints_dw a.1 _ ha
          subst e
          have q : ((Codec.inLen 0 30000 a.1 && a.1.all (Codec.inInt 0 4294967295)) && true) = true := hwi
          rw [Bool.and_eq_true, Bool.and_eq_true] at q
          exact ⟨_, a.1, rfl, hs, (Codec.inNat_iff.mp q.1.1).2, hask, fun H' p hp => .lst (L2.SqL.of hp) (L2.dw_ints _)⟩
