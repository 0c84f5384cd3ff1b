import PyProof.Rows.All
import PyProof.Rows.SortShellAny
import KE.OsHead
import Open.SpecLaws
import KE.BitLaws
import KE.KTab
import KE.KDictList
import KE.KItem
import KE.KTurns
import PySem.Challenge.RW_lesserchip_s01_run
set_option Elab.async false
set_option linter.all false
set_option maxRecDepth 100000
set_option maxHeartbeats 0
open PySem.W (Frag nsIn codeIn keepIn fnOf findIn)
namespace Internal
namespace L2
open PySem
noncomputable def inClass (s : Stmt) (j : Nat) : Stmt := match s with
  | .ClassDef _ _ _ body _ _ _ _ _ _ _ => body.getD j (.Pass ⟨0, 0, 0, 0⟩)
  | _ => .Pass ⟨0, 0, 0, 0⟩
noncomputable def AEi (s : Stmt) : Arguments := match s with
  | .FunctionDef _ a _ _ _ _ _ _ _ _ => a
  | _ => { posonlyargs := [], args := [], vararg := none, kwonlyargs := [], kw_defaults := [], kwarg := none, defaults := [] }
noncomputable def ACy (s : Stmt) : List Stmt := match s with
  | .FunctionDef _ _ b _ _ _ _ _ _ _ => b
  | _ => []
noncomputable def AAb (s : Stmt) : Scope := match s with
  | .FunctionDef _ _ _ _ _ _ sc _ _ _ => sc
  | _ => { kind := .function, names := [], isGenerator := false, isCoroutine := false }
end L2
namespace Chip
open PySem L2
noncomputable def top (i : Nat) : Stmt := PySem.Challenge.pw_lesserchip_s01_run.main.body.getD i (.Pass ⟨0, 0, 0, 0⟩)
noncomputable abbrev ASd : Stmt := inClass (top 12) 0
noncomputable abbrev AJe : Stmt := top 13
noncomputable abbrev AKl : Stmt := top 14
noncomputable abbrev AHz : Stmt := top 15
noncomputable abbrev AGy : Stmt := top 16
noncomputable abbrev AMy : Stmt := top 17
noncomputable abbrev AMz : Stmt := top 18
noncomputable abbrev ANh : Stmt := top 19
noncomputable abbrev AJg : Stmt := top 20
noncomputable abbrev AJb : Stmt := top 21
noncomputable abbrev AFa : Stmt := top 42
noncomputable abbrev AEt : Stmt := top 43
noncomputable abbrev AGz : Stmt := top 44
noncomputable abbrev AI8 : Stmt := top 45
noncomputable abbrev AE4 : Stmt := top 46
noncomputable abbrev ADe : Stmt := top 47
noncomputable abbrev ADl : Stmt := top 48
noncomputable abbrev ADw : Stmt := top 49
noncomputable abbrev AEg : Stmt := top 50
noncomputable abbrev AFq : Stmt := top 51
noncomputable abbrev AF6 : Stmt := top 52
noncomputable abbrev AEb : Stmt := top 53
noncomputable abbrev AFs : Stmt := top 54
noncomputable abbrev AF7 : Stmt := top 55
noncomputable abbrev AI4 : Stmt := top 56
noncomputable abbrev AGv : Stmt := top 57
noncomputable abbrev ALk : Stmt := top 58
noncomputable abbrev AJd : Stmt := top 59
noncomputable abbrev AKq : Stmt := top 60
noncomputable abbrev A5a : Stmt := top 61
noncomputable abbrev A3j : Stmt := top 62
noncomputable abbrev A3w : Stmt := top 64
noncomputable abbrev AH7 : Stmt := top 65
noncomputable abbrev AJc : Stmt := top 66
noncomputable abbrev AJa : Stmt := top 67
noncomputable abbrev AQm : Stmt := top 68
noncomputable abbrev A2s : Stmt := top 69
noncomputable abbrev AK4 : Stmt := top 70
noncomputable abbrev AGb : Stmt := top 72
noncomputable abbrev AEz : Stmt := top 73
noncomputable abbrev AJj : Stmt := top 75
noncomputable abbrev AK2 : Stmt := top 76
noncomputable abbrev AGa : Stmt := top 77
noncomputable abbrev AGq : Stmt := top 78
noncomputable abbrev AF5 : Stmt := top 79
noncomputable abbrev ADu : Stmt := top 80
noncomputable abbrev AGx : Stmt := top 81
noncomputable abbrev AW5 : Stmt := top 82
noncomputable abbrev APj : Stmt := top 83
noncomputable abbrev AM8 : Stmt := top 85
noncomputable abbrev AN2 : Stmt := top 86
noncomputable abbrev ANs : Stmt := top 87
noncomputable abbrev APq : Stmt := top 88
noncomputable abbrev ANu : Stmt := top 89
noncomputable abbrev AN3 : Stmt := top 90
noncomputable abbrev AMu : Stmt := top 91
noncomputable abbrev ANl : Stmt := top 92
noncomputable abbrev AM5 : Stmt := top 93
noncomputable abbrev ANd : Stmt := top 94
noncomputable abbrev ANr : Stmt := top 95
noncomputable abbrev AOb : Stmt := top 96
noncomputable abbrev ANx : Stmt := top 97
noncomputable abbrev ANa : Stmt := top 98
noncomputable abbrev AQf : Stmt := top 99
noncomputable abbrev AM7 : Stmt := top 100
noncomputable abbrev AMw : Stmt := top 101
noncomputable abbrev AM1 : Stmt := top 102
noncomputable abbrev AQs : Stmt := top 103
noncomputable abbrev AQ0 : Stmt := top 104
noncomputable abbrev APo : Stmt := top 105
noncomputable abbrev AI2 : Stmt := top 106
noncomputable abbrev AQe : Stmt := top 107
noncomputable abbrev AN6 : Stmt := top 108
noncomputable abbrev AMx : Stmt := top 109
noncomputable abbrev AN5 : Stmt := top 110
noncomputable abbrev AMo : Stmt := top 111
noncomputable abbrev ACt : Stmt := top 112
noncomputable abbrev AQp : Stmt := top 113
noncomputable abbrev ALc : Stmt := top 114
noncomputable abbrev ALb : Stmt := top 115
noncomputable abbrev AD6 : Stmt := top 116
noncomputable abbrev ATs : Stmt := top 117
noncomputable abbrev APv : Stmt := top 118
noncomputable abbrev ANb : Stmt := top 119
noncomputable abbrev ANt : Stmt := top 120
noncomputable abbrev AJk : Stmt := top 121
noncomputable abbrev AIz : Stmt := top 122
noncomputable abbrev AI3 : Stmt := top 123
noncomputable abbrev AQa : Stmt := top 124
noncomputable abbrev AJi : Stmt := top 125
noncomputable abbrev ANw : Stmt := top 126
noncomputable abbrev ALe : Stmt := top 127
noncomputable abbrev ANy : Stmt := top 128
noncomputable abbrev ALj : Stmt := top 129
noncomputable abbrev AEe : Stmt := top 130
noncomputable abbrev ALp : Stmt := top 131
noncomputable abbrev AJp : Stmt := top 132
noncomputable abbrev ANe : Stmt := top 133
noncomputable abbrev APk : Stmt := top 134
noncomputable abbrev APi : Stmt := top 135
noncomputable abbrev AQ4 : Stmt := top 136
noncomputable abbrev AGs : Stmt := top 137
noncomputable abbrev AWl : Stmt := top 138
noncomputable abbrev AP0 : Stmt := top 139
noncomputable abbrev A45 : Stmt := top 140
noncomputable abbrev ANp : Stmt := top 141
noncomputable abbrev AUo : Stmt := top 142
noncomputable abbrev AH0 : Stmt := top 143
noncomputable abbrev AVz : Stmt := top 144
noncomputable abbrev AN8 : Stmt := top 145
noncomputable abbrev APr : Stmt := top 146
noncomputable abbrev AMs : Stmt := top 147
noncomputable abbrev AE5 : Stmt := top 149
noncomputable abbrev A52 : Stmt := top 152
noncomputable abbrev AP6 : Stmt := top 153
noncomputable abbrev AKx : Stmt := top 154
noncomputable abbrev AEr : Stmt := top 155
end Chip
namespace HR
open PySem PySem.W L2 Chip
noncomputable abbrev PR : Program := PySem.Challenge.pw_lesserchip_s01_run
noncomputable def en (p : Params) (x : Str) (t : Nat) (v : Value) : DictEntry := ⟨PyData.keyHash p x, .str x t, v⟩
noncomputable def dfn (a t line n : Nat) (nm qn : Str) (st : Stmt) (vs : List Str) (md : Value) : List Obj :=
  [⟨.type "tuple", none, .seq #[] 0, #[]⟩, ⟨.none, none, .fields #[], #[]⟩, ⟨.type "tuple", none, .seq (vs.zipIdx.map fun x => .str x.1 (t + 3 + x.2)).toArray 0, #[]⟩, ⟨.type "tuple", none, .seq #[] 0, #[]⟩,
   ⟨.none, none, .func { name := nm, qualname := qn, params := AEi st, body := .stmts (ACy st), scope := AAb st, globals := 0, closure := [], defaults := .none, kwdefaults := .none }, #[]⟩,
   ⟨.type "code", none, .fields #[.str nm t, .str qn (t + 1), .str "/claim/cut.py" (t + 2), .int line 0, .int n 0, .int 0 0, .int 0 0, .int 3 0, .ref a, .bool true, .int 181 0, .ref (a + 1), .none, .ref (a + 2), .ref (a + 3), .ref (a + 4), .int (t + 3 + vs.length : Nat) 0, .int line 0, .str "/claim/cut.py" (t + 4 + vs.length)], #[]⟩,
   ⟨.type "function", none, .func { name := nm, qualname := qn, params := AEi st, body := .stmts (ACy st), scope := AAb st, globals := 3, closure := [], defaults := .none, kwdefaults := .none, pyModule := md, code := .ref (a + 5) }, #[]⟩]
noncomputable def ob0 (p : Params) : List Obj := [⟨.type "tuple", none, .seq #[] 0, #[]⟩] ++ ([⟨.type "builtin_function_or_method", none, .fields #[.builtin "type.__prepare__", .type "type"], #[]⟩] ++ ([⟨.type "dict", none, .dict #[en p "__module__" 218 (.str "lesserchip.machine" 187), en p "__qualname__" 220 (.str "Machine" 219), en p "__firstlineno__" 222 (.int 13 221), en p "__init__" 232 (.ref 28), en p "__static_attributes__" 242 (.ref 29)] 5, #[]⟩] ++ ([⟨.type "tuple", none, .seq #[] 0, #[]⟩] ++ ([⟨.none, none, .fields #[.int 15 0, .int 4 0, .ref 27], #[]⟩] ++ ([⟨.type "code", none, .fields (([.str "Machine" 213, .str "Machine" 214, .str "/claim/cut.py" 215, .int 13 0, .int 0 0, .int 0 0, .int 0 0, .int 0 0, .ref 18, .bool false, .int 181 0, .ref 19, .none, .none, .none, .none] : List Value) ++ ([.int 216 0, .int 13 0, .str "/claim/cut.py" 217] : List Value)).toArray, #[]⟩] ++ ([⟨.type "frame", none, .plain, #[some (.ref 20), some (.ref 3), some (.ref 17), none, some (.str "lesserchip.machine" 187), none, some (.ref 0)]⟩] ++ (dfn 22 223 15 4 "__init__" "Machine.__init__" (inClass (top 12) 0) ["self", "state", "places", "data"] (.str "lesserchip.machine" 187) ++ ([⟨.type "tuple", none, .seq #[.str "bytes_before" 233, .str "carry" 234, .str "end" 235, .str "memory" 236, .str "negative" 237, .str "onward" 238, .str "regs" 239, .str "wrong_sign" 240, .str "zero" 241] 0, #[]⟩] ++ ([⟨.type "dict", none, .dict #[en p "__module__" 218 (.str "lesserchip.machine" 187), en p "__firstlineno__" 222 (.int 13 221), en p "__init__" 232 (.ref 28), en p "__static_attributes__" 242 (.ref 29), en p "__dict__" 244 (.ref 32), en p "__weakref__" 246 (.ref 33), en p "__doc__" 247 (.none)] 4, #[]⟩])))))))))
noncomputable def ob1 (p : Params) : List Obj := [⟨.type "type", none, .cls { name := "Machine", bases := [.type "object"], mro := [.ref 31, .type "object"], ns := 30, qualname := "Machine" }, #[none, none, some (.str "Machine" 211), some (.str "Machine" 219), some (.builtin "object.__new__"), some (.bool true)]⟩] ++ ([⟨.type "getset_descriptor", none, .fields #[.str "__dict__" 243, .ref 31, .builtin "function.__dict__", .builtin "function.__dict__#set"], #[]⟩] ++ ([⟨.type "getset_descriptor", none, .fields #[.str "__weakref__" 245, .ref 31, .builtin "ExceptionGroup.__weakref__", .none], #[]⟩] ++ ([⟨.type "super", none, .fields #[.ref 31, .ref 31, .ref 31], #[]⟩] ++ ([⟨.type "builtin_function_or_method", none, .fields #[.builtin "object.__init_subclass__", .ref 31], #[]⟩] ++ (dfn 36 250 25 2 "memory_of" "memory_of" (top 13) ["places", "data", "memory", "place", "byte"] (.str "lesserchip.machine" 187) ++ (dfn 43 261 30 1 "state_of" "state_of" (top 14) ["machine", "flags"] (.str "lesserchip.machine" 187) ++ (dfn 50 269 33 1 "changes_of" "changes_of" (top 15) ["machine", "changes", "place", "byte"] (.str "lesserchip.machine" 187) ++ (dfn 57 279 41 3 "set_register" "set_register" (top 16) ["machine", "d", "value"] (.str "lesserchip.machine" 187) ++ (dfn 64 288 48 2 "is_none" "is_none" (top 17) ["place", "size"] (.str "lesserchip.machine" 187))))))))))
noncomputable def ob2 (p : Params) : List Obj := dfn 71 296 50 2 "half_at" "half_at" (top 18) ["memory", "place"] (.str "lesserchip.machine" 187) ++ (dfn 78 304 52 2 "word_at" "word_at" (top 19) ["memory", "place"] (.str "lesserchip.machine" 187) ++ (dfn 85 312 54 4 "put_bytes" "put_bytes" (top 20) ["machine", "place", "size", "value", "at"] (.str "lesserchip.machine" 187) ++ (dfn 92 323 59 2 "with_sign" "with_sign" (top 21) ["value", "sign_bit"] (.str "lesserchip.machine" 187) ++ ([⟨.type "tuple", none, .seq #[] 0, #[]⟩] ++ ([⟨.type "tuple", none, .seq #[.str "none" 333, .none, .none, .none, .int 0 334, .ref 99] 0, #[]⟩] ++ ([⟨.type "tuple", none, .seq #[] 0, #[]⟩] ++ ([⟨.type "tuple", none, .seq #[.str "second" 339] 0, #[]⟩] ++ ([⟨.type "tuple", none, .seq #[.str "d" 341, .str "second" 342] 0, #[]⟩] ++ ([⟨.type "tuple", none, .seq #[.str "d" 344, .str "second" 345, .str "zero" 346] 0, #[]⟩])))))))))
noncomputable def ob3 (p : Params) : List Obj := [⟨.type "tuple", none, .seq #[.str "d" 348, .str "n" 349, .str "second" 350] 0, #[]⟩] ++ ([⟨.type "tuple", none, .seq #[.str "d" 352, .str "place" 353] 0, #[]⟩] ++ ([⟨.type "tuple", none, .seq #[.str "list" 355] 0, #[]⟩] ++ ([⟨.type "tuple", none, .seq #[.str "base" 357, .str "list" 358] 0, #[]⟩] ++ ([⟨.type "tuple", none, .seq #[.str "target" 360] 0, #[]⟩] ++ ([⟨.type "tuple", none, .seq #[.str "lsls" 362, .str "lsrs" 363, .str "asrs" 364] 0, #[]⟩] ++ ([⟨.type "tuple", none, .seq #[.str "movs" 366, .str "cmp" 367, .str "adds" 368, .str "subs" 369] 0, #[]⟩] ++ ([⟨.type "tuple", none, .seq #[.str "ands" 371, .str "eors" 372, .str "lsls" 373, .str "lsrs" 374, .str "asrs" 375, .str "adcs" 376, .str "sbcs" 377, .str "rors" 378, .str "tst" 379, .str "rsbs" 380, .str "cmp" 381, .str "cmn" 382, .str "orrs" 383, .str "muls" 384, .str "bics" 385, .str "mvns" 386] 0, #[]⟩] ++ ([⟨.type "tuple", none, .seq #[.str "add" 388, .str "cmp" 389, .str "mov" 390] 0, #[]⟩] ++ ([⟨.type "tuple", none, .seq #[.str "str" 392, .str "strh" 393, .str "strb" 394, .str "ldrsb" 395, .str "ldr" 396, .str "ldrh" 397, .str "ldrb" 398, .str "ldrsh" 399] 0, #[]⟩])))))))))
noncomputable def ob4 (p : Params) : List Obj := [⟨.type "tuple", none, .seq #[.str "str" 401, .int 4 402] 0, #[]⟩] ++ ([⟨.type "tuple", none, .seq #[.str "ldr" 403, .int 4 404] 0, #[]⟩] ++ ([⟨.type "tuple", none, .seq #[.str "strb" 405, .int 1 406] 0, #[]⟩] ++ ([⟨.type "tuple", none, .seq #[.str "ldrb" 407, .int 1 408] 0, #[]⟩] ++ ([⟨.type "tuple", none, .seq #[.str "strh" 409, .int 2 410] 0, #[]⟩] ++ ([⟨.type "tuple", none, .seq #[.str "ldrh" 411, .int 2 412] 0, #[]⟩] ++ ([⟨.type "tuple", none, .seq #[.ref 115, .ref 116, .ref 117, .ref 118, .ref 119, .ref 120] 0, #[]⟩] ++ ([⟨.type "tuple", none, .seq #[.str "sxth" 414, .str "sxtb" 415, .str "uxth" 416, .str "uxtb" 417] 0, #[]⟩] ++ ([⟨.type "tuple", none, .seq #[.str "rev" 419, .str "rev16" 420, .str "none" 421, .str "revsh" 422] 0, #[]⟩] ++ (dfn 124 424 81 1 "no_instruction" "no_instruction" (top 42) ["half"] (.str "lesserchip.bits" 331))))))))))
noncomputable def ob5 (p : Params) : List Obj := dfn 131 431 83 1 "shift_by_number" "shift_by_number" (top 43) ["half", "d", "m", "i", "name"] (.str "lesserchip.bits" 331) ++ (dfn 138 442 91 1 "sum_of_three" "sum_of_three" (top 44) ["half", "name", "d", "n", "x"] (.str "lesserchip.bits" 331) ++ (dfn 145 453 99 1 "with_byte" "with_byte" (top 45) ["half", "d"] (.str "lesserchip.bits" 331) ++ (dfn 152 461 102 1 "with_registers" "with_registers" (top 46) ["half", "d", "name"] (.str "lesserchip.bits" 331) ++ (dfn 159 470 108 1 "with_high_registers" "with_high_registers" (top 47) ["half", "kind", "d", "m", "name"] (.str "lesserchip.bits" 331) ++ (dfn 166 481 120 1 "branch_to_register" "branch_to_register" (top 48) ["half", "m"] (.str "lesserchip.bits" 331) ++ (dfn 173 489 125 1 "load_from_program" "load_from_program" (top 49) ["half"] (.str "lesserchip.bits" 331) ++ (dfn 180 496 127 1 "move_by_register" "move_by_register" (top 50) ["half"] (.str "lesserchip.bits" 331) ++ (dfn 187 503 129 1 "move_by_number" "move_by_number" (top 51) ["half", "way"] (.str "lesserchip.bits" 331) ++ (dfn 194 511 132 1 "move_on_stack" "move_on_stack" (top 52) ["half", "name"] (.str "lesserchip.bits" 331))))))))))
noncomputable def ob6 (p : Params) : List Obj := dfn 201 519 135 1 "place_in_program" "place_in_program" (top 53) ["half"] (.str "lesserchip.bits" 331) ++ (dfn 208 526 137 1 "place_on_stack" "place_on_stack" (top 54) ["half"] (.str "lesserchip.bits" 331) ++ (dfn 215 533 139 1 "stack_pointer" "stack_pointer" (top 55) ["half", "name"] (.str "lesserchip.bits" 331) ++ (dfn 222 541 142 1 "extension" "extension" (top 56) ["half"] (.str "lesserchip.bits" 331) ++ (dfn 229 548 144 1 "turned_bytes" "turned_bytes" (top 57) ["half", "name"] (.str "lesserchip.bits" 331) ++ ([⟨.type "tuple", none, .seq #[] 0, #[]⟩] ++ ([⟨.none, none, .fields #[], #[]⟩] ++ ([⟨.none, none, .func { name := "listed", qualname := "listed", params := AEi (top 58), body := .stmts (ACy (top 58)), scope := AAb (top 58), globals := 0, closure := [], defaults := .none, kwdefaults := .none, pyModule := .none, code := .none }, #[]⟩] ++ ([⟨.type "code", none, .fields (([.str "listed" 556, .str "listed" 557, .str "/claim/cut.py" 558, .int 149 0, .int 2 0, .int 0 0, .int 0 0, .int 3 0, .ref 236, .bool true, .int 181 0, .ref 237, .none, .none, .none, .ref 238] : List Value) ++ ([.int 559 0, .int 149 0, .str "/claim/cut.py" 560] : List Value)).toArray, #[]⟩] ++ ([⟨.type "function", none, .func { name := "listed", qualname := "listed", params := AEi (top 58), body := .stmts (ACy (top 58)), scope := AAb (top 58), globals := 3, closure := [], defaults := .none, kwdefaults := .none, pyModule := .str "lesserchip.bits" 331, code := .ref 239 }, #[]⟩])))))))))
noncomputable def ob7 (p : Params) : List Obj := dfn 241 562 154 1 "push_list" "push_list" (top 59) ["half"] (.str "lesserchip.bits" 331) ++ (dfn 248 569 158 1 "pop_list" "pop_list" (top 60) ["half"] (.str "lesserchip.bits" 331) ++ (dfn 255 576 162 1 "bkpt" "bkpt" (top 61) ["half"] (.str "lesserchip.bits" 331) ++ (dfn 262 583 164 1 "hint" "hint" (top 62) ["half"] (.str "lesserchip.bits" 331) ++ ([⟨.type "tuple", none, .seq #[.ref 221, .ref 130, .ref 228, .ref 130, .ref 247, .ref 247, .ref 130, .ref 130, .ref 130, .ref 130, .ref 235, .ref 130, .ref 254, .ref 254, .ref 261, .ref 268] 0, #[]⟩] ++ (dfn 270 591 169 1 "odds" "odds" (top 64) ["half"] (.str "lesserchip.bits" 331) ++ (dfn 277 598 171 1 "store_list" "store_list" (top 65) ["half", "n", "registers"] (.str "lesserchip.bits" 331) ++ (dfn 284 607 177 1 "load_list" "load_list" (top 66) ["half"] (.str "lesserchip.bits" 331) ++ (dfn 291 614 181 1 "branch_if" "branch_if" (top 67) ["half", "condition"] (.str "lesserchip.bits" 331) ++ (dfn 298 622 188 1 "branch" "branch" (top 68) ["half"] (.str "lesserchip.bits" 331))))))))))
noncomputable def ob8 (p : Params) : List Obj := dfn 305 629 190 2 "wide" "wide" (top 69) ["first", "second"] (.str "lesserchip.bits" 331) ++ (dfn 312 637 196 2 "distance" "distance" (top 70) ["first", "second", "sign", "high", "low", "number"] (.str "lesserchip.bits" 331) ++ ([⟨.type "tuple", none, .seq (([.ref 137, .ref 137, .ref 137, .ref 144, .ref 151, .ref 151, .ref 151, .ref 151, .ref 158, .ref 179, .ref 186, .ref 186, .ref 193, .ref 193, .ref 193, .ref 193] : List Value) ++ ([.ref 193, .ref 193, .ref 200, .ref 200, .ref 207, .ref 214, .ref 276, .ref 276, .ref 283, .ref 290, .ref 297, .ref 297, .ref 304, .ref 130, .ref 130, .ref 130] : List Value)).toArray 0, #[]⟩] ++ (dfn 320 650 203 1 "is_first_half" "is_first_half" (top 72) ["half"] (.str "lesserchip.bits" 331) ++ (dfn 327 657 205 2 "instruction_at" "instruction_at" (top 73) ["memory", "place", "half"] (.str "lesserchip.bits" 331) ++ (dfn 334 668 213 2 "result_of" "result_of" (top 75) ["machine", "value"] (.str "lesserchip.arithmetic" 666) ++ (dfn 341 676 217 4 "total_of" "total_of" (top 76) ["machine", "a", "b", "carry", "total", "result"] (.str "lesserchip.arithmetic" 666) ++ (dfn 348 688 225 3 "difference_of" "difference_of" (top 77) ["machine", "a", "b"] (.str "lesserchip.arithmetic" 666) ++ (dfn 355 697 227 3 "shifted_left" "shifted_left" (top 78) ["machine", "value", "by", "shifted"] (.str "lesserchip.arithmetic" 666) ++ (dfn 362 707 233 3 "shifted_right" "shifted_right" (top 79) ["machine", "value", "by"] (.str "lesserchip.arithmetic" 666))))))))))
noncomputable def ob9 (p : Params) : List Obj := dfn 369 716 238 3 "shifted_with_sign" "shifted_with_sign" (top 80) ["machine", "value", "by", "signed"] (.str "lesserchip.arithmetic" 666) ++ (dfn 376 726 244 3 "turned_right" "turned_right" (top 81) ["machine", "value", "by", "rest", "turned"] (.str "lesserchip.arithmetic" 666) ++ (dfn 383 737 251 2 "holds" "holds" (top 82) ["machine", "condition"] (.str "lesserchip.arithmetic" 666) ++ (dfn 390 745 253 2 "is_met" "is_met" (top 83) ["machine", "pair"] (.str "lesserchip.arithmetic" 666) ++ (dfn 397 755 268 4 "do_movs" "do_movs" (top 85) ["machine", "d", "n", "x"] (.str "lesserchip.doing" 753) ++ (dfn 404 765 270 4 "do_mvns" "do_mvns" (top 86) ["machine", "d", "n", "x"] (.str "lesserchip.doing" 753) ++ (dfn 411 775 272 4 "do_ands" "do_ands" (top 87) ["machine", "d", "n", "x"] (.str "lesserchip.doing" 753) ++ (dfn 418 785 274 4 "do_tst" "do_tst" (top 88) ["machine", "d", "n", "x"] (.str "lesserchip.doing" 753) ++ (dfn 425 795 276 4 "do_bics" "do_bics" (top 89) ["machine", "d", "n", "x"] (.str "lesserchip.doing" 753) ++ (dfn 432 805 278 4 "do_orrs" "do_orrs" (top 90) ["machine", "d", "n", "x"] (.str "lesserchip.doing" 753))))))))))
noncomputable def ob10 (p : Params) : List Obj := dfn 439 815 280 4 "do_eors" "do_eors" (top 91) ["machine", "d", "n", "x"] (.str "lesserchip.doing" 753) ++ (dfn 446 825 282 4 "do_muls" "do_muls" (top 92) ["machine", "d", "n", "x"] (.str "lesserchip.doing" 753) ++ (dfn 453 835 284 4 "do_lsls" "do_lsls" (top 93) ["machine", "d", "n", "x"] (.str "lesserchip.doing" 753) ++ (dfn 460 845 286 4 "do_lsrs" "do_lsrs" (top 94) ["machine", "d", "n", "x"] (.str "lesserchip.doing" 753) ++ (dfn 467 855 288 4 "do_asrs" "do_asrs" (top 95) ["machine", "d", "n", "x"] (.str "lesserchip.doing" 753) ++ (dfn 474 865 290 4 "do_rors" "do_rors" (top 96) ["machine", "d", "n", "x"] (.str "lesserchip.doing" 753) ++ (dfn 481 875 292 4 "do_adds" "do_adds" (top 97) ["machine", "d", "n", "x"] (.str "lesserchip.doing" 753) ++ (dfn 488 885 294 4 "do_adcs" "do_adcs" (top 98) ["machine", "d", "n", "x"] (.str "lesserchip.doing" 753) ++ (dfn 495 895 296 4 "do_cmn" "do_cmn" (top 99) ["machine", "d", "n", "x"] (.str "lesserchip.doing" 753) ++ (dfn 502 905 298 4 "do_subs" "do_subs" (top 100) ["machine", "d", "n", "x"] (.str "lesserchip.doing" 753))))))))))
noncomputable def ob11 (p : Params) : List Obj := dfn 509 915 300 4 "do_sbcs" "do_sbcs" (top 101) ["machine", "d", "n", "x"] (.str "lesserchip.doing" 753) ++ (dfn 516 925 302 4 "do_rsbs" "do_rsbs" (top 102) ["machine", "d", "n", "x"] (.str "lesserchip.doing" 753) ++ (dfn 523 935 304 4 "do_cmp" "do_cmp" (top 103) ["machine", "d", "n", "x"] (.str "lesserchip.doing" 753) ++ (dfn 530 945 306 4 "do_add" "do_add" (top 104) ["machine", "d", "n", "x"] (.str "lesserchip.doing" 753) ++ (dfn 537 955 308 4 "do_sub" "do_sub" (top 105) ["machine", "d", "n", "x"] (.str "lesserchip.doing" 753) ++ (dfn 544 965 310 4 "do_add_pc" "do_add_pc" (top 106) ["machine", "d", "n", "x"] (.str "lesserchip.doing" 753) ++ (dfn 551 975 312 4 "do_mov" "do_mov" (top 107) ["machine", "d", "n", "x"] (.str "lesserchip.doing" 753) ++ (dfn 558 985 314 4 "do_sxth" "do_sxth" (top 108) ["machine", "d", "n", "x"] (.str "lesserchip.doing" 753) ++ (dfn 565 995 316 4 "do_sxtb" "do_sxtb" (top 109) ["machine", "d", "n", "x"] (.str "lesserchip.doing" 753) ++ (dfn 572 1005 318 4 "do_uxth" "do_uxth" (top 110) ["machine", "d", "n", "x"] (.str "lesserchip.doing" 753))))))))))
noncomputable def ob12 (p : Params) : List Obj := dfn 579 1015 320 4 "do_uxtb" "do_uxtb" (top 111) ["machine", "d", "n", "x"] (.str "lesserchip.doing" 753) ++ (dfn 586 1025 322 1 "bytes_turned_in_halves" "bytes_turned_in_halves" (top 112) ["value"] (.str "lesserchip.doing" 753) ++ (dfn 593 1032 324 4 "do_rev" "do_rev" (top 113) ["machine", "d", "n", "x", "turned"] (.str "lesserchip.doing" 753) ++ (dfn 600 1043 327 4 "do_rev16" "do_rev16" (top 114) ["machine", "d", "n", "x"] (.str "lesserchip.doing" 753) ++ (dfn 607 1053 329 4 "do_revsh" "do_revsh" (top 115) ["machine", "d", "n", "x"] (.str "lesserchip.doing" 753) ++ (dfn 614 1063 331 2 "place_by_program" "place_by_program" (top 116) ["machine", "x"] (.str "lesserchip.doing" 753) ++ (dfn 621 1071 333 4 "store" "store" (top 117) ["machine", "d", "place", "size"] (.str "lesserchip.doing" 753) ++ (dfn 628 1081 338 4 "do_str" "do_str" (top 118) ["machine", "d", "n", "x"] (.str "lesserchip.doing" 753) ++ (dfn 635 1091 340 4 "do_strh" "do_strh" (top 119) ["machine", "d", "n", "x"] (.str "lesserchip.doing" 753) ++ (dfn 642 1101 342 4 "do_strb" "do_strb" (top 120) ["machine", "d", "n", "x"] (.str "lesserchip.doing" 753))))))))))
noncomputable def ob13 (p : Params) : List Obj := dfn 649 1111 344 3 "load_word" "load_word" (top 121) ["machine", "d", "place"] (.str "lesserchip.doing" 753) ++ (dfn 656 1120 349 4 "load_half" "load_half" (top 122) ["machine", "d", "place", "sign_bit"] (.str "lesserchip.doing" 753) ++ (dfn 663 1130 354 4 "load_byte" "load_byte" (top 123) ["machine", "d", "place", "sign_bit"] (.str "lesserchip.doing" 753) ++ (dfn 670 1140 359 4 "do_ldr" "do_ldr" (top 124) ["machine", "d", "n", "x"] (.str "lesserchip.doing" 753) ++ (dfn 677 1150 361 4 "do_ldr_pc" "do_ldr_pc" (top 125) ["machine", "d", "n", "x"] (.str "lesserchip.doing" 753) ++ (dfn 684 1160 363 4 "do_ldrh" "do_ldrh" (top 126) ["machine", "d", "n", "x"] (.str "lesserchip.doing" 753) ++ (dfn 691 1170 365 4 "do_ldrsh" "do_ldrsh" (top 127) ["machine", "d", "n", "x"] (.str "lesserchip.doing" 753) ++ (dfn 698 1180 367 4 "do_ldrb" "do_ldrb" (top 128) ["machine", "d", "n", "x"] (.str "lesserchip.doing" 753) ++ (dfn 705 1190 369 4 "do_ldrsb" "do_ldrsb" (top 129) ["machine", "d", "n", "x"] (.str "lesserchip.doing" 753) ++ (dfn 712 1200 371 2 "is_none_for_list" "is_none_for_list" (top 130) ["place", "registers"] (.str "lesserchip.doing" 753))))))))))
noncomputable def ob14 (p : Params) : List Obj := dfn 719 1208 373 3 "put_list" "put_list" (top 131) ["machine", "place", "registers", "r"] (.str "lesserchip.doing" 753) ++ (dfn 726 1218 377 3 "take_list" "take_list" (top 132) ["machine", "place", "registers", "r"] (.str "lesserchip.doing" 753) ++ (dfn 733 1228 381 4 "do_push" "do_push" (top 133) ["machine", "d", "n", "registers", "place"] (.str "lesserchip.doing" 753) ++ (dfn 740 1239 388 4 "do_pop" "do_pop" (top 134) ["machine", "d", "n", "registers", "place", "behind"] (.str "lesserchip.doing" 753) ++ (dfn 747 1251 400 4 "do_stm" "do_stm" (top 135) ["machine", "d", "n", "registers", "place"] (.str "lesserchip.doing" 753) ++ (dfn 754 1262 407 4 "do_ldm" "do_ldm" (top 136) ["machine", "d", "n", "registers", "place"] (.str "lesserchip.doing" 753) ++ (dfn 761 1273 415 2 "go_to_marked" "go_to_marked" (top 137) ["machine", "target"] (.str "lesserchip.doing" 753) ++ (dfn 768 1281 420 4 "do_bx" "do_bx" (top 138) ["machine", "d", "n", "x"] (.str "lesserchip.doing" 753) ++ (dfn 775 1291 422 4 "do_blx" "do_blx" (top 139) ["machine", "d", "n", "x", "link"] (.str "lesserchip.doing" 753) ++ (dfn 782 1302 427 4 "do_b" "do_b" (top 140) ["machine", "d", "n", "x"] (.str "lesserchip.doing" 753))))))))))
noncomputable def ob15 (p : Params) : List Obj := dfn 789 1312 429 4 "do_b_if" "do_b_if" (top 141) ["machine", "condition", "n", "x"] (.str "lesserchip.doing" 753) ++ (dfn 796 1322 432 4 "do_bl" "do_bl" (top 142) ["machine", "d", "n", "x"] (.str "lesserchip.doing" 753) ++ (dfn 803 1332 435 4 "do_barrier" "do_barrier" (top 143) ["machine", "d", "n", "x"] (.str "lesserchip.doing" 753) ++ (dfn 810 1342 437 4 "do_nop" "do_nop" (top 144) ["machine", "d", "n", "x"] (.str "lesserchip.doing" 753) ++ (dfn 817 1352 439 4 "do_bkpt" "do_bkpt" (top 145) ["machine", "d", "n", "x"] (.str "lesserchip.doing" 753) ++ (dfn 824 1362 441 4 "do_svc" "do_svc" (top 146) ["machine", "d", "n", "x"] (.str "lesserchip.doing" 753) ++ (dfn 831 1372 443 4 "do_none" "do_none" (top 147) ["machine", "d", "n", "x"] (.str "lesserchip.doing" 753) ++ ([⟨.type "dict", none, .dict (([en p "movs" 1382 (.ref 403), en p "mvns" 1384 (.ref 410), en p "ands" 1386 (.ref 417), en p "tst" 1388 (.ref 424), en p "bics" 1390 (.ref 431), en p "orrs" 1392 (.ref 438), en p "eors" 1394 (.ref 445), en p "muls" 1396 (.ref 452), en p "lsls" 1398 (.ref 459), en p "lsrs" 1400 (.ref 466), en p "asrs" 1402 (.ref 473), en p "rors" 1404 (.ref 480), en p "adds" 1406 (.ref 487), en p "adcs" 1408 (.ref 494), en p "cmn" 1410 (.ref 501), en p "subs" 1412 (.ref 508)] : List DictEntry) ++ ([en p "sbcs" 1414 (.ref 515), en p "rsbs" 1416 (.ref 522), en p "cmp" 1418 (.ref 529), en p "add" 1420 (.ref 536), en p "sub" 1422 (.ref 543), en p "add_pc" 1424 (.ref 550), en p "mov" 1426 (.ref 557), en p "sxth" 1428 (.ref 564), en p "sxtb" 1430 (.ref 571), en p "uxth" 1432 (.ref 578), en p "uxtb" 1434 (.ref 585), en p "rev" 1436 (.ref 599), en p "rev16" 1438 (.ref 606), en p "revsh" 1440 (.ref 613), en p "str" 1442 (.ref 634), en p "strh" 1444 (.ref 641)] : List DictEntry) ++ ([en p "strb" 1446 (.ref 648), en p "ldr" 1448 (.ref 676), en p "ldr_pc" 1450 (.ref 683), en p "ldrh" 1452 (.ref 690), en p "ldrsh" 1454 (.ref 697), en p "ldrb" 1456 (.ref 704), en p "ldrsb" 1458 (.ref 711), en p "push" 1460 (.ref 739), en p "pop" 1462 (.ref 746), en p "stm" 1464 (.ref 753), en p "ldm" 1466 (.ref 760), en p "bx" 1468 (.ref 774), en p "blx" 1470 (.ref 781), en p "b" 1472 (.ref 788), en p "b_if" 1474 (.ref 795), en p "bl" 1476 (.ref 802)] : List DictEntry) ++ ([en p "barrier" 1478 (.ref 809), en p "nop" 1480 (.ref 816), en p "bkpt" 1482 (.ref 823), en p "svc" 1484 (.ref 830), en p "none" 1485 (.ref 837)] : List DictEntry)).toArray 53, #[]⟩] ++ ([⟨.type "dict", none, .dict (([en p "rsbs" 1416 (.ref 522), en p "cmp" 1418 (.ref 529), en p "add" 1420 (.ref 536), en p "sub" 1422 (.ref 543), en p "add_pc" 1424 (.ref 550), en p "mov" 1426 (.ref 557), en p "sxth" 1428 (.ref 564), en p "sxtb" 1430 (.ref 571), en p "uxth" 1432 (.ref 578), en p "uxtb" 1434 (.ref 585), en p "rev" 1436 (.ref 599), en p "rev16" 1438 (.ref 606), en p "revsh" 1440 (.ref 613), en p "str" 1442 (.ref 634), en p "strh" 1444 (.ref 641), en p "strb" 1446 (.ref 648)] : List DictEntry) ++ ([en p "ldr" 1448 (.ref 676)] : List DictEntry)).toArray 17, #[]⟩] ++ ([⟨.type "dict", none, .dict (([en p "ldr_pc" 1450 (.ref 683), en p "ldrh" 1452 (.ref 690), en p "ldrsh" 1454 (.ref 697), en p "ldrb" 1456 (.ref 704), en p "ldrsb" 1458 (.ref 711), en p "push" 1460 (.ref 739), en p "pop" 1462 (.ref 746), en p "stm" 1464 (.ref 753), en p "ldm" 1466 (.ref 760), en p "bx" 1468 (.ref 774), en p "blx" 1470 (.ref 781), en p "b" 1472 (.ref 788), en p "b_if" 1474 (.ref 795), en p "bl" 1476 (.ref 802), en p "barrier" 1478 (.ref 809), en p "nop" 1480 (.ref 816)] : List DictEntry) ++ ([en p "bkpt" 1482 (.ref 823)] : List DictEntry)).toArray 17, #[]⟩])))))))))
noncomputable def ob16 (p : Params) : List Obj := [⟨.type "dict", none, .dict #[en p "svc" 1484 (.ref 830), en p "none" 1485 (.ref 837)] 2, #[]⟩] ++ (dfn 842 1489 446 2 "do_instruction" "do_instruction" (top 149) ["machine", "instruction", "m", "second"] (.str "lesserchip.doing" 753) ++ (dfn 849 1503 452 4 "run" "run" (top 152) ["n", "state", "places", "data", "machine", "done"] (.str "lesserchip.core" 1499) ++ (dfn 856 1515 460 1 "can_be" "can_be" (top 153) ["state"] (.str "lesserchip.core" 1499) ++ (dfn 863 1522 462 2 "do_steps" "do_steps" (top 154) ["machine", "n", "regs", "known", "done", "place", "instruction"] (.str "lesserchip.core" 1499) ++ (dfn 870 1535 481 3 "instruction_now" "instruction_now" (top 155) ["memory", "place", "known", "half", "instruction"] (.str "lesserchip.core" 1499))))))
noncomputable def objs (p : Params) : List Obj := ob0 p ++ (ob1 p ++ (ob2 p ++ (ob3 p ++ (ob4 p ++ (ob5 p ++ (ob6 p ++ (ob7 p ++ (ob8 p ++ (ob9 p ++ (ob10 p ++ (ob11 p ++ (ob12 p ++ (ob13 p ++ (ob14 p ++ (ob15 p ++ (ob16 p))))))))))))))))
noncomputable def ent0 (p : Params) (nm : Str) (t : Nat) : List DictEntry := [en p "__name__" 165 (.str nm t), en p "__doc__" 166 (.none), en p "__package__" 167 (.none), en p "__loader__" 168 (.builtin "__main__.__loader__#opaque"), en p "__spec__" 169 (.none), en p "__annotations__" 170 (.ref 6), en p "__builtins__" 171 (.ref 4), en p "__file__" 173 (.str "/claim/cut.py" 172), en p "__cached__" 174 (.none)]
noncomputable def es0 (p : Params) : List DictEntry := [en p "SIZE" 190 (.int 65536 189), en p "WORD" 192 (.int 4294967295 191), en p "SP" 194 (.int 13 193), en p "LR" 196 (.int 14 195), en p "PC" 198 (.int 15 197), en p "STEPS_DONE" 200 (.int 0 199), en p "NO_INSTRUCTION" 202 (.int 1 201), en p "NO_PLACE" 204 (.int 2 203), en p "AT_BKPT" 206 (.int 3 205), en p "AT_SVC" 208 (.int 4 207), en p "BEYOND_MEMORY" 210 (.int 5 209), en p "Machine" 249 (.ref 31)]
noncomputable def es1 (p : Params) : List DictEntry := [en p "memory_of" 260 (.ref 42), en p "state_of" 268 (.ref 49), en p "changes_of" 278 (.ref 56), en p "set_register" 287 (.ref 63), en p "is_none" 295 (.ref 70), en p "half_at" 303 (.ref 77), en p "word_at" 311 (.ref 84), en p "put_bytes" 322 (.ref 91), en p "with_sign" 330 (.ref 98), en p "NONE" 335 (.ref 100), en p "WIDE" 337 (.int 30 336), en p "ALONE" 338 (.ref 101)]
noncomputable def es2 (p : Params) : List DictEntry := [en p "OF_ONE" 340 (.ref 102), en p "OF_TWO" 343 (.ref 103), en p "OF_TWO_AND_ZERO" 347 (.ref 104), en p "OF_THREE" 351 (.ref 105), en p "WITH_PLACE" 354 (.ref 106), en p "WITH_LIST" 356 (.ref 107), en p "WITH_BASE_AND_LIST" 359 (.ref 108), en p "WITH_TARGET" 361 (.ref 109), en p "SHIFTS" 365 (.ref 110), en p "WITH_BYTE" 370 (.ref 111), en p "TWO_LOW" 387 (.ref 112), en p "TWO_HIGH" 391 (.ref 113)]
noncomputable def es3 (p : Params) : List DictEntry := [en p "BY_REGISTER" 400 (.ref 114), en p "BY_NUMBER" 413 (.ref 121), en p "EXTENSIONS" 418 (.ref 122), en p "TURNS" 423 (.ref 123), en p "no_instruction" 430 (.ref 130), en p "shift_by_number" 441 (.ref 137), en p "sum_of_three" 452 (.ref 144), en p "with_byte" 460 (.ref 151), en p "with_registers" 469 (.ref 158), en p "with_high_registers" 480 (.ref 165), en p "branch_to_register" 488 (.ref 172), en p "load_from_program" 495 (.ref 179)]
noncomputable def es4 (p : Params) : List DictEntry := [en p "move_by_register" 502 (.ref 186), en p "move_by_number" 510 (.ref 193), en p "move_on_stack" 518 (.ref 200), en p "place_in_program" 525 (.ref 207), en p "place_on_stack" 532 (.ref 214), en p "stack_pointer" 540 (.ref 221), en p "extension" 547 (.ref 228), en p "turned_bytes" 555 (.ref 235), en p "listed" 561 (.ref 240), en p "push_list" 568 (.ref 247), en p "pop_list" 575 (.ref 254), en p "bkpt" 582 (.ref 261)]
noncomputable def es5 (p : Params) : List DictEntry := [en p "hint" 589 (.ref 268), en p "ODDS" 590 (.ref 269), en p "odds" 597 (.ref 276), en p "store_list" 606 (.ref 283), en p "load_list" 613 (.ref 290), en p "branch_if" 621 (.ref 297), en p "branch" 628 (.ref 304), en p "wide" 636 (.ref 311), en p "distance" 648 (.ref 318), en p "BY_HIGHEST_BITS" 649 (.ref 319), en p "is_first_half" 656 (.ref 326), en p "instruction_at" 665 (.ref 333)]
noncomputable def es6 (p : Params) : List DictEntry := [en p "result_of" 675 (.ref 340), en p "total_of" 687 (.ref 347), en p "difference_of" 696 (.ref 354), en p "shifted_left" 706 (.ref 361), en p "shifted_right" 715 (.ref 368), en p "shifted_with_sign" 725 (.ref 375), en p "turned_right" 736 (.ref 382), en p "holds" 744 (.ref 389), en p "is_met" 752 (.ref 396), en p "do_movs" 764 (.ref 403), en p "do_mvns" 774 (.ref 410), en p "do_ands" 784 (.ref 417)]
noncomputable def es7 (p : Params) : List DictEntry := [en p "do_tst" 794 (.ref 424), en p "do_bics" 804 (.ref 431), en p "do_orrs" 814 (.ref 438), en p "do_eors" 824 (.ref 445), en p "do_muls" 834 (.ref 452), en p "do_lsls" 844 (.ref 459), en p "do_lsrs" 854 (.ref 466), en p "do_asrs" 864 (.ref 473), en p "do_rors" 874 (.ref 480), en p "do_adds" 884 (.ref 487), en p "do_adcs" 894 (.ref 494), en p "do_cmn" 904 (.ref 501)]
noncomputable def es8 (p : Params) : List DictEntry := [en p "do_subs" 914 (.ref 508), en p "do_sbcs" 924 (.ref 515), en p "do_rsbs" 934 (.ref 522), en p "do_cmp" 944 (.ref 529), en p "do_add" 954 (.ref 536), en p "do_sub" 964 (.ref 543), en p "do_add_pc" 974 (.ref 550), en p "do_mov" 984 (.ref 557), en p "do_sxth" 994 (.ref 564), en p "do_sxtb" 1004 (.ref 571), en p "do_uxth" 1014 (.ref 578), en p "do_uxtb" 1024 (.ref 585)]
noncomputable def es9 (p : Params) : List DictEntry := [en p "bytes_turned_in_halves" 1031 (.ref 592), en p "do_rev" 1042 (.ref 599), en p "do_rev16" 1052 (.ref 606), en p "do_revsh" 1062 (.ref 613), en p "place_by_program" 1070 (.ref 620), en p "store" 1080 (.ref 627), en p "do_str" 1090 (.ref 634), en p "do_strh" 1100 (.ref 641), en p "do_strb" 1110 (.ref 648), en p "load_word" 1119 (.ref 655), en p "load_half" 1129 (.ref 662), en p "load_byte" 1139 (.ref 669)]
noncomputable def es10 (p : Params) : List DictEntry := [en p "do_ldr" 1149 (.ref 676), en p "do_ldr_pc" 1159 (.ref 683), en p "do_ldrh" 1169 (.ref 690), en p "do_ldrsh" 1179 (.ref 697), en p "do_ldrb" 1189 (.ref 704), en p "do_ldrsb" 1199 (.ref 711), en p "is_none_for_list" 1207 (.ref 718), en p "put_list" 1217 (.ref 725), en p "take_list" 1227 (.ref 732), en p "do_push" 1238 (.ref 739), en p "do_pop" 1250 (.ref 746), en p "do_stm" 1261 (.ref 753)]
noncomputable def es11 (p : Params) : List DictEntry := [en p "do_ldm" 1272 (.ref 760), en p "go_to_marked" 1280 (.ref 767), en p "do_bx" 1290 (.ref 774), en p "do_blx" 1301 (.ref 781), en p "do_b" 1311 (.ref 788), en p "do_b_if" 1321 (.ref 795), en p "do_bl" 1331 (.ref 802), en p "do_barrier" 1341 (.ref 809), en p "do_nop" 1351 (.ref 816), en p "do_bkpt" 1361 (.ref 823), en p "do_svc" 1371 (.ref 830), en p "do_none" 1381 (.ref 837)]
noncomputable def es12 (p : Params) : List DictEntry := [en p "DOERS" 1488 (.ref 838), en p "do_instruction" 1498 (.ref 848), en p "MOST_STEPS" 1502 (.int 16777216 1501), en p "run" 1514 (.ref 855), en p "can_be" 1521 (.ref 862), en p "do_steps" 1534 (.ref 869), en p "instruction_now" 1545 (.ref 876)]
noncomputable def ents (p : Params) : List DictEntry := es0 p ++ (es1 p ++ (es2 p ++ (es3 p ++ (es4 p ++ (es5 p ++ (es6 p ++ (es7 p ++ (es8 p ++ (es9 p ++ (es10 p ++ (es11 p ++ (es12 p))))))))))))
noncomputable def tb0 : List Value := [.int 13 0, .int 0 0, .ref 20, .int 25 0, .int 0 0, .ref 41, .int 30 0, .int 0 0, .ref 48, .int 33 0, .int 0 0, .ref 55, .int 41 0, .int 0 0, .ref 62, .int 48 0, .int 0 0, .ref 69, .int 50 0, .int 0 0, .ref 76, .int 52 0, .int 0 0, .ref 83]
noncomputable def tb1 : List Value := [.int 54 0, .int 0 0, .ref 90, .int 59 0, .int 0 0, .ref 97, .int 81 0, .int 0 0, .ref 129, .int 83 0, .int 0 0, .ref 136, .int 91 0, .int 0 0, .ref 143, .int 99 0, .int 0 0, .ref 150, .int 102 0, .int 0 0, .ref 157, .int 108 0, .int 0 0, .ref 164]
noncomputable def tb2 : List Value := [.int 120 0, .int 0 0, .ref 171, .int 125 0, .int 0 0, .ref 178, .int 127 0, .int 0 0, .ref 185, .int 129 0, .int 0 0, .ref 192, .int 132 0, .int 0 0, .ref 199, .int 135 0, .int 0 0, .ref 206, .int 137 0, .int 0 0, .ref 213, .int 139 0, .int 0 0, .ref 220]
noncomputable def tb3 : List Value := [.int 142 0, .int 0 0, .ref 227, .int 144 0, .int 0 0, .ref 234, .int 149 0, .int 0 0, .ref 239, .int 154 0, .int 0 0, .ref 246, .int 158 0, .int 0 0, .ref 253, .int 162 0, .int 0 0, .ref 260, .int 164 0, .int 0 0, .ref 267, .int 169 0, .int 0 0, .ref 275]
noncomputable def tb4 : List Value := [.int 171 0, .int 0 0, .ref 282, .int 177 0, .int 0 0, .ref 289, .int 181 0, .int 0 0, .ref 296, .int 188 0, .int 0 0, .ref 303, .int 190 0, .int 0 0, .ref 310, .int 196 0, .int 0 0, .ref 317, .int 203 0, .int 0 0, .ref 325, .int 205 0, .int 0 0, .ref 332]
noncomputable def tb5 : List Value := [.int 213 0, .int 0 0, .ref 339, .int 217 0, .int 0 0, .ref 346, .int 225 0, .int 0 0, .ref 353, .int 227 0, .int 0 0, .ref 360, .int 233 0, .int 0 0, .ref 367, .int 238 0, .int 0 0, .ref 374, .int 244 0, .int 0 0, .ref 381, .int 251 0, .int 0 0, .ref 388]
noncomputable def tb6 : List Value := [.int 253 0, .int 0 0, .ref 395, .int 268 0, .int 0 0, .ref 402, .int 270 0, .int 0 0, .ref 409, .int 272 0, .int 0 0, .ref 416, .int 274 0, .int 0 0, .ref 423, .int 276 0, .int 0 0, .ref 430, .int 278 0, .int 0 0, .ref 437, .int 280 0, .int 0 0, .ref 444]
noncomputable def tb7 : List Value := [.int 282 0, .int 0 0, .ref 451, .int 284 0, .int 0 0, .ref 458, .int 286 0, .int 0 0, .ref 465, .int 288 0, .int 0 0, .ref 472, .int 290 0, .int 0 0, .ref 479, .int 292 0, .int 0 0, .ref 486, .int 294 0, .int 0 0, .ref 493, .int 296 0, .int 0 0, .ref 500]
noncomputable def tb8 : List Value := [.int 298 0, .int 0 0, .ref 507, .int 300 0, .int 0 0, .ref 514, .int 302 0, .int 0 0, .ref 521, .int 304 0, .int 0 0, .ref 528, .int 306 0, .int 0 0, .ref 535, .int 308 0, .int 0 0, .ref 542, .int 310 0, .int 0 0, .ref 549, .int 312 0, .int 0 0, .ref 556]
noncomputable def tb9 : List Value := [.int 314 0, .int 0 0, .ref 563, .int 316 0, .int 0 0, .ref 570, .int 318 0, .int 0 0, .ref 577, .int 320 0, .int 0 0, .ref 584, .int 322 0, .int 0 0, .ref 591, .int 324 0, .int 0 0, .ref 598, .int 327 0, .int 0 0, .ref 605, .int 329 0, .int 0 0, .ref 612]
noncomputable def tb10 : List Value := [.int 331 0, .int 0 0, .ref 619, .int 333 0, .int 0 0, .ref 626, .int 338 0, .int 0 0, .ref 633, .int 340 0, .int 0 0, .ref 640, .int 342 0, .int 0 0, .ref 647, .int 344 0, .int 0 0, .ref 654, .int 349 0, .int 0 0, .ref 661, .int 354 0, .int 0 0, .ref 668]
noncomputable def tb11 : List Value := [.int 359 0, .int 0 0, .ref 675, .int 361 0, .int 0 0, .ref 682, .int 363 0, .int 0 0, .ref 689, .int 365 0, .int 0 0, .ref 696, .int 367 0, .int 0 0, .ref 703, .int 369 0, .int 0 0, .ref 710, .int 371 0, .int 0 0, .ref 717, .int 373 0, .int 0 0, .ref 724]
noncomputable def tb12 : List Value := [.int 377 0, .int 0 0, .ref 731, .int 381 0, .int 0 0, .ref 738, .int 388 0, .int 0 0, .ref 745, .int 400 0, .int 0 0, .ref 752, .int 407 0, .int 0 0, .ref 759, .int 415 0, .int 0 0, .ref 766, .int 420 0, .int 0 0, .ref 773, .int 422 0, .int 0 0, .ref 780]
noncomputable def tb13 : List Value := [.int 427 0, .int 0 0, .ref 787, .int 429 0, .int 0 0, .ref 794, .int 432 0, .int 0 0, .ref 801, .int 435 0, .int 0 0, .ref 808, .int 437 0, .int 0 0, .ref 815, .int 439 0, .int 0 0, .ref 822, .int 441 0, .int 0 0, .ref 829, .int 443 0, .int 0 0, .ref 836]
noncomputable def tb14 : List Value := [.int 446 0, .int 0 0, .ref 847, .int 452 0, .int 0 0, .ref 854, .int 460 0, .int 0 0, .ref 861, .int 462 0, .int 0 0, .ref 868, .int 481 0, .int 0 0, .ref 875]
noncomputable def tabs : List Value := tb0 ++ (tb1 ++ (tb2 ++ (tb3 ++ (tb4 ++ (tb5 ++ (tb6 ++ (tb7 ++ (tb8 ++ (tb9 ++ (tb10 ++ (tb11 ++ (tb12 ++ (tb13 ++ (tb14))))))))))))))
noncomputable def hAt (no ne nt : Nat) (nm : Str) (t : Nat) (p : Params) : Heap :=
  ⟨⟨[boot_o_0 p, boot_o_1 p, boot_o_2 p, ⟨.type "dict", none, .dict (ent0 p nm t ++ (ents p).take ne).toArray (ne + 9), #[]⟩, boot_o_4 p, boot_o_5 p, boot_o_6 p, boot_o_7 p, boot_o_8 p, boot_o_9 p, boot_o_10 p,
    ⟨.type "tuple", none, .seq #[] 0, #[]⟩, ⟨.none, none, .fields (tabs.take nt).toArray, #[]⟩, ⟨.type "code", none, .fields (([.str "<module>" 182, .str "<module>" 183, .str "/claim/cut.py" 184, .int 1 0, .int 0 0, .int 0 0, .int 0 0, .int 0 0, .ref 11, .bool false, .int 181 0, .ref 12, .none, .none, .none, .none] : List Value) ++ ([.int 185 0, .int 1 0, .str "/claim/cut.py" 186] : List Value)).toArray, #[]⟩, ⟨.type "frame", none, .plain, #[some (.ref 13), some (.ref 3), some (.ref 3), none, some (.str "__main__" 164), none, some (.ref 0)]⟩] ++ (objs p).take no⟩, {}⟩
noncomputable def sAt (no ne nt : Nat) (nm : Str) (t k : Nat) (p : Params) (os : OsState) : Shared := ⟨hAt no ne nt nm t p, #[], {}, k, os⟩
noncomputable def bR : List Stmt := behindTheImports PR
noncomputable def eR : Env := { scope := PR.main.scope, locals := mainNs, globals := mainNs, cells := [], code := .ref 13, frame := some 14 }
noncomputable abbrev cR : Code := .body bR eR
end HR
namespace HR
open PySem PySem.W
theorem g8f : ∀ (w : World) (os : OsState), segRun treeTable PR (w.withFollow "special-get-raises" false) 11 (some (.ref 6)) 1 1096 (sAt 823 144 336 "lesserchip.doing" 753 1382 (w.withFollow "special-get-raises" false).params os) (piecesOf ((bR.drop 148).take 1) eR cR ⟨443, 0, 444, 32⟩ [topFrame ⟨0, 0, 0, 0⟩]) = some (.next, sAt 827 145 336 "lesserchip.doing" 753 1489 (w.withFollow "special-get-raises" false).params os, cR, ⟨445, 0, 445, 5⟩) := fun w os => by kernel_rfl
end HR
namespace HR
open PySem PySem.W
theorem g8t : ∀ (w : World) (os : OsState), segRun treeTable PR (w.withFollow "special-get-raises" true) 11 (some (.ref 6)) 1 1096 (sAt 823 144 336 "lesserchip.doing" 753 1382 (w.withFollow "special-get-raises" true).params os) (piecesOf ((bR.drop 148).take 1) eR cR ⟨443, 0, 444, 32⟩ [topFrame ⟨0, 0, 0, 0⟩]) = some (.next, sAt 827 145 336 "lesserchip.doing" 753 1489 (w.withFollow "special-get-raises" true).params os, cR, ⟨445, 0, 445, 5⟩) := fun w os => by kernel_rfl
end HR
namespace HR
open PySem PySem.W
noncomputable def sF (p : Params) (os : OsState) : Shared := sAt 862 151 351 "lesserchip.core" 1499 1546 p os
noncomputable def hF (p : Params) : Heap := hAt 862 151 351 "lesserchip.core" 1499 p
noncomputable def QR : Program := view PR (List.range' 1 21 ++ (List.range' 23 51 ++ (List.range' 75 9 ++ (List.range' 85 65 ++ List.range' 151 5))))
noncomputable def lsR : List Str := ["ODDS", "BY_HIGHEST_BITS", "DOERS"]
noncomputable def KR (p : Params) : Frag := (List.range 877).zip (hF p).objs.toList
end HR
namespace HR
open PySem PySem.W PySem.Calls PyProof.Rows
theorem l2 : ∀ (w : World) (os : OsState), ((sF w.params os).heap.bltView, (sF w.params os).heap.keysOk (looseW QR lsR) ((recsOf QR).map (·.name)) ((litsOf QR).map (·.1)) ((clssOf QR (looseW QR lsR)).map (·.name))) = (bltViewBooted, true) := fun w os => by kernel_rfl
end HR
namespace HR
open PySem PySem.W PySem.Calls PyProof.Rows
theorem l1 : ∀ (w : World) (os : OsState), seen ((recsOf QR).map (·.name)) (ownsOf QR) [] { sF w.params os with gens := #[] } = expectedOf QR := fun w os => by kernel_rfl
end HR
namespace HR
open PySem PySem.W PySem.Calls PyProof.Rows
theorem l5 : ∀ (w : World) (os : OsState), (plainSeenD QR lsR (sF w.params os), wideSeen QR (sF w.params os), clsSeenW QR lsR (sF w.params os)) = (plainGoodD QR lsR, wideGood QR, clsGoodW QR lsR) := fun w os => by kernel_rfl
end HR
namespace HR
open PySem PySem.W PySem.Calls PyProof.Rows
theorem l4a : ∀ (w : World) (os : OsState), tabsOk QR (sF w.params os) = true := fun w os => by kernel_rfl
end HR
namespace HR
open PySem PySem.W PySem.Calls PyProof.Rows
theorem l4c : ∀ (w : World) (os : OsState), plainSeenE QR (looseW QR lsR) (sF w.params os) = plainGoodE QR (looseW QR lsR) := fun w os => by kernel_rfl
end HR
namespace HR
open PySem PySem.W PySem.Calls PyProof.Rows
theorem l4b : ∀ (w : World) (os : OsState), pinSeenD QR (drecsOf QR) (sF w.params os) = pinGoodD (drecsOf QR) := fun w os => by kernel_rfl
end HR
namespace HR
open PySem PySem.W PySem.Calls PyProof.Rows
theorem l3 : ∀ (w : World) (os : OsState), ((sF w.params os).heap.accountedOkI (importedModules PR.main.body) && (sF w.params os).heap.isNs mainGlobals && (sF w.params os).heap.isNs builtinsNs && tablesOk QR (sF w.params os).heap && (xlAt QR [] (sF w.params os) && recOk [] (sF w.params os)) && (if true then (sF w.params os).gens.size == 0 else !leftWithCleanup (sF w.params os).gens)) = true := fun w os => by kernel_rfl
end HR
namespace HR
open PySem PySem.W
theorem looka : ∀ (w : World) (os : OsState), (staticsOk (importedModules PR.main.body) (boot_heap w.params) (hF w.params) && namesBound PR (hF w.params) && gensDone (sF w.params os) && laidKept (boot_heap w.params) (hF w.params)) = true := fun w os => by kernel_rfl
end HR
namespace HR
open PySem PySem.W
theorem BBq : ∀ w : World, ((boot_heap w.params).isNs mainGlobals && (#[] : Array GenState).size == 0, (boot_heap w.params).objs.size, (boot_heap w.params).nsMap mainGlobals "__annotations__") = (true, 11, some (.ref 6)) := fun w => by kernel_rfl
end HR
namespace HR
open PySem PySem.W
theorem g6 : ∀ (w : World) (os : OsState), segRun treeTable PR w 11 (some (.ref 6)) 1 579 (sAt 662 121 267 "lesserchip.doing" 753 1150 w.params os) (piecesOf ((bR.drop 125).take 18) eR cR ⟨359, 0, 360, 53⟩ [topFrame ⟨0, 0, 0, 0⟩]) = some (.next, sAt 788 139 321 "lesserchip.doing" 753 1332 w.params os, cR, ⟨432, 0, 434, 48⟩) := fun w os => by kernel_rfl
end HR
namespace HR
open PySem PySem.W
theorem g5 : ∀ (w : World) (os : OsState), segRun treeTable PR w 11 (some (.ref 6)) 1 572 (sAt 536 103 213 "lesserchip.doing" 753 975 w.params os) (piecesOf ((bR.drop 107).take 18) eR cR ⟨310, 0, 311, 50⟩ [topFrame ⟨0, 0, 0, 0⟩]) = some (.next, sAt 662 121 267 "lesserchip.doing" 753 1150 w.params os, cR, ⟨359, 0, 360, 53⟩) := fun w os => by kernel_rfl
end HR
namespace HR
open PySem PySem.W
theorem g0 : ∀ (w : World) (os : OsState), segRun treeTable PR w 11 (some (.ref 6)) 1 590 (sAt 0 0 0 "__main__" 164 187 w.params os) (piecesOf ((bR.drop 0).take 21) eR cR ⟨0, 0, 0, 0⟩ [topFrame ⟨0, 0, 0, 0⟩]) = some (.next, sAt 77 20 27 "lesserchip.machine" 187 323 w.params os, cR, ⟨54, 0, 58, 26⟩) := fun w os => by kernel_rfl
end HR
namespace HR
open PySem PySem.W
theorem g4 : ∀ (w : World) (os : OsState), segRun treeTable PR w 11 (some (.ref 6)) 1 577 (sAt 410 85 159 "lesserchip.doing" 753 795 w.params os) (piecesOf ((bR.drop 89).take 18) eR cR ⟨274, 0, 275, 43⟩ [topFrame ⟨0, 0, 0, 0⟩]) = some (.next, sAt 536 103 213 "lesserchip.doing" 753 975 w.params os, cR, ⟨310, 0, 311, 50⟩) := fun w os => by kernel_rfl
end HR
namespace HR
open PySem PySem.W
theorem g2 : ∀ (w : World) (os : OsState), segRun treeTable PR w 11 (some (.ref 6)) 1 570 (sAt 172 49 57 "lesserchip.bits" 331 503 w.params os) (piecesOf ((bR.drop 51).take 19) eR cR ⟨127, 0, 128, 94⟩ [topFrame ⟨0, 0, 0, 0⟩]) = some (.next, sAt 297 68 111 "lesserchip.bits" 331 637 w.params os, cR, ⟨190, 0, 195, 15⟩) := fun w os => by kernel_rfl
end HR
namespace HR
open PySem PySem.W
theorem g3 : ∀ (w : World) (os : OsState), segRun treeTable PR w 11 (some (.ref 6)) 1 598 (sAt 297 68 111 "lesserchip.bits" 331 637 w.params os) (piecesOf ((bR.drop 70).take 19) eR cR ⟨190, 0, 195, 15⟩ [topFrame ⟨0, 0, 0, 0⟩]) = some (.next, sAt 410 85 159 "lesserchip.doing" 753 795 w.params os, cR, ⟨274, 0, 275, 43⟩) := fun w os => by kernel_rfl
end HR
namespace HR
open PySem PySem.W
theorem g1 : ∀ (w : World) (os : OsState), segRun treeTable PR w 11 (some (.ref 6)) 1 591 (sAt 77 20 27 "lesserchip.machine" 187 323 w.params os) (piecesOf ((bR.drop 21).take 30) eR cR ⟨54, 0, 58, 26⟩ [topFrame ⟨0, 0, 0, 0⟩]) = some (.next, sAt 172 49 57 "lesserchip.bits" 331 503 w.params os, cR, ⟨127, 0, 128, 94⟩) := fun w os => by kernel_rfl
end HR
namespace HR
open PySem PySem.W
theorem g7 : ∀ (w : World) (os : OsState), segRun treeTable PR w 11 (some (.ref 6)) 1 161 (sAt 788 139 321 "lesserchip.doing" 753 1332 w.params os) (piecesOf ((bR.drop 143).take 5) eR cR ⟨432, 0, 434, 48⟩ [topFrame ⟨0, 0, 0, 0⟩]) = some (.next, sAt 823 144 336 "lesserchip.doing" 753 1382 w.params os, cR, ⟨443, 0, 444, 32⟩) := fun w os => by kernel_rfl
end HR
namespace HR
open PySem PySem.W
theorem g9 : ∀ (w : World) (os : OsState), segRun treeTable PR w 11 (some (.ref 6)) 1 182 (sAt 827 145 336 "lesserchip.doing" 753 1489 w.params os) (piecesOf ((bR.drop 149).take 7) eR cR ⟨445, 0, 445, 5⟩ [topFrame ⟨0, 0, 0, 0⟩]) = some (.next, sAt 862 151 351 "lesserchip.core" 1499 1546 w.params os, cR, ⟨481, 0, 488, 22⟩) := fun w os => by kernel_rfl
end HR
namespace HR
open PySem PySem.W
theorem pre : ∀ (w : World) (os : OsState), topGo treeTable PR w 11 (some (.ref 6)) 12 ⟨boot_heap w.params, #[], boot_drawn, boot_toks, os⟩ (topStub PR) = some (sAt 0 0 0 "__main__" 164 187 w.params os, ⟨denote treeTable cR, cR, ⟨0, 0, 0, 0⟩, [topFrame ⟨0, 0, 0, 0⟩]⟩) := fun w os => by kernel_rfl
end HR
namespace HR
open PySem PySem.W
theorem block : ∀ (w : World) (os : OsState), segRun treeTable PR w 11 (some (.ref 6)) 1 1 (sAt 0 0 0 "__main__" 164 187 w.params os) (blockOf bR eR cR ⟨0, 0, 0, 0⟩ [topFrame ⟨0, 0, 0, 0⟩]) = some (.next, sAt 0 0 0 "__main__" 164 187 w.params os, cR, ⟨0, 0, 0, 0⟩) := fun w os => by kernel_rfl
end HR
namespace HR
open PySem PySem.W
theorem fin : ∀ (w : World) (os : OsState), topRun treeTable PR w 11 (some (.ref 6)) 2 (sAt 862 151 351 "lesserchip.core" 1499 1546 w.params os) ⟨doneF .next, cR, ⟨481, 0, 488, 22⟩, [topFrame ⟨0, 0, 0, 0⟩]⟩ = some (sAt 862 151 351 "lesserchip.core" 1499 1546 w.params os) := fun w os => by kernel_rfl
end HR
namespace HR
open PySem PySem.W
noncomputable def live (o : Obj) : Bool := match o.data with | .freed => false | _ => true
theorem A4l {l : List Obj} {lf : Life} (h : l.all live = true) {i : Nat} {o : Obj} (e : l[i]? = some o) : Heap.get? ⟨⟨l⟩, lf⟩ i = some o := by
  have hl : live o = true := List.all_eq_true.mp h o (List.mem_of_getElem? e)
  have e' : (⟨l⟩ : Array Obj)[i]? = some o := by rw [List.getElem?_toArray]; exact e
  unfold Heap.get?
  rw [e']
  obtain ⟨c, d, dt, s⟩ := o
  cases dt <;> first | rfl | cases hl
theorem A9f {l : List Obj} {lf : Life} (h : l.all live = true) {n : Nat} (hn : l.length = n) : (List.range n).map (Heap.get? ⟨⟨l⟩, lf⟩) = ((List.range n).zip l).map fun p => some p.2 := by
  subst hn
  refine List.ext_getElem (by simp) fun i h1 h2 => ?_
  have hi : i < l.length := by simpa using h1
  rw [List.getElem_map, List.getElem_map, List.getElem_zip, List.getElem_range]
  exact A4l h (List.getElem?_eq_getElem hi)
theorem A7x {l : List Obj} {n : Nat} (hn : l.length = n) : List.range n = ((List.range n).zip l).map (·.1) := by
  rw [List.map_fst_zip (by rw [List.length_range, hn]; exact Nat.le_refl _)]
theorem lenF (p : Params) : (hF p).objs.toList.length = 877 := by kernel_rfl
theorem liveF (p : Params) : (hF p).objs.toList.all live = true := by kernel_rfl
theorem keyk (p : Params) : List.range 877 = (KR p).map (·.1) := A7x (lenF p)
theorem lookk (w : World) (os : OsState) : (List.range 877).map (sF w.params os).heap.get? = (KR w.params).map fun p => some p.2 := A9f (liveF w.params) (lenF w.params)
end HR
namespace HR
open PySem PySem.W PySem.Calls PyProof.Rows
theorem split : bR = ((bR.drop 0).take 21) ++ (((bR.drop 21).take 30) ++ (((bR.drop 51).take 19) ++ (((bR.drop 70).take 19) ++ (((bR.drop 89).take 18) ++ (((bR.drop 107).take 18) ++ (((bR.drop 125).take 18) ++ (((bR.drop 143).take 5) ++ (((bR.drop 148).take 1) ++ (((bR.drop 149).take 7) ++ ([])))))))))) := by kernel_rfl
end HR
namespace HR
open PySem PySem.W PySem.Calls PyProof.Rows
theorem g8 : ∀ (w : World) (os : OsState), segRun treeTable PR w 11 (some (.ref 6)) 1 1096 (sAt 823 144 336 "lesserchip.doing" 753 1382 w.params os) (piecesOf ((bR.drop 148).take 1) eR cR ⟨443, 0, 444, 32⟩ [topFrame ⟨0, 0, 0, 0⟩]) = some (.next, sAt 827 145 336 "lesserchip.doing" 753 1489 w.params os, cR, ⟨445, 0, 445, 5⟩) := byRow2 "special-get-raises" g8f g8t
end HR
namespace HR
open PySem PySem.W PySem.Calls PyProof.Rows
theorem runR : ∀ (w : World) (os : OsState), topRun treeTable PR w 11 (some (.ref 6)) (12 + (1 + (590 + (591 + (570 + (598 + (577 + (572 + (579 + (161 + (1096 + (182 + (2))))))))))))) ⟨boot_heap w.params, #[], boot_drawn, boot_toks, os⟩ (topStub PR) = some (sAt 862 151 351 "lesserchip.core" 1499 1546 w.params os) := by
  intro w os
  refine go_top (pre w os) ?_
  refine piece_block (block w os) ?_
  have e : restOf bR eR cR ⟨0, 0, 0, 0⟩ [topFrame ⟨0, 0, 0, 0⟩] = restOf (((bR.drop 0).take 21) ++ (((bR.drop 21).take 30) ++ (((bR.drop 51).take 19) ++ (((bR.drop 70).take 19) ++ (((bR.drop 89).take 18) ++ (((bR.drop 107).take 18) ++ (((bR.drop 125).take 18) ++ (((bR.drop 143).take 5) ++ (((bR.drop 148).take 1) ++ (((bR.drop 149).take 7) ++ ([]))))))))))) eR cR ⟨0, 0, 0, 0⟩ [topFrame ⟨0, 0, 0, 0⟩] := congrArg (fun b => restOf b eR cR ⟨0, 0, 0, 0⟩ [topFrame ⟨0, 0, 0, 0⟩]) split
  rw [e]
  refine piece_app (g0 w os) ?_
  refine piece_app (g1 w os) ?_
  refine piece_app (g2 w os) ?_
  refine piece_app (g3 w os) ?_
  refine piece_app (g4 w os) ?_
  refine piece_app (g5 w os) ?_
  refine piece_app (g6 w os) ?_
  refine piece_app (g7 w os) ?_
  refine piece_app (g8 w os) ?_
  refine piece_app (g9 w os) ?_
  exact piece_nil (fin w os)
end HR
namespace HR
open PySem PySem.W PySem.Calls PyProof.Rows
noncomputable def HK : Hook := kHook KR (List.range 877) keyk
theorem openR : ∀ w : World, (fencedOpening treeTable PR w 12000).map (fun s => (s.heap, s.gens, s.drawn, s.toks)) = some (boot_heap w.params, Array.mk [], boot_drawn, boot_toks) := boot_open (by kernel_rfl) (by decide) (fun s => by kernel_rfl)
theorem third {a b c d e f g : Bool} (h : a = true) (k : (b && c && d && e && f && g) = true) : (a && b && c && d && e && f && g) = true := by subst h; exact k
end HR
namespace HR
open PySem PySem.W PySem.Calls PyProof.Rows
noncomputable abbrev XtR : Shared → Bool := fun s => xlAt QR [] s && recOk [] s
noncomputable def q1 (w : World) (os : OsState) := seen ((recsOf QR).map (·.name)) (ownsOf QR) [] { sF w.params os with gens := #[] }
noncomputable def q2 (w : World) (os : OsState) := (sF w.params os).heap.bltView
noncomputable def qk (w : World) (os : OsState) : Bool := (sF w.params os).heap.keysOk (looseW QR lsR) ((recsOf QR).map (·.name)) ((litsOf QR).map (·.1)) ((clssOf QR (looseW QR lsR)).map (·.name))
noncomputable def qr (w : World) (os : OsState) : Bool := ((sF w.params os).heap.accountedOkI (importedModules PR.main.body) && (sF w.params os).heap.isNs mainGlobals && (sF w.params os).heap.isNs builtinsNs && tablesOk QR (sF w.params os).heap && (xlAt QR [] (sF w.params os) && recOk [] (sF w.params os)) && (if true then (sF w.params os).gens.size == 0 else !leftWithCleanup (sF w.params os).gens))
noncomputable def q3 (w : World) (os : OsState) : Bool := (sF w.params os).heap.keysOk (looseW QR lsR) ((recsOf QR).map (·.name)) ((litsOf QR).map (·.1)) ((clssOf QR (looseW QR lsR)).map (·.name)) && (sF w.params os).heap.accountedOkI (importedModules PR.main.body) && (sF w.params os).heap.isNs mainGlobals && (sF w.params os).heap.isNs builtinsNs && tablesOk QR (sF w.params os).heap && XtR (sF w.params os) && (if true then (sF w.params os).gens.size == 0 else !leftWithCleanup (sF w.params os).gens)
noncomputable def q5 (w : World) (os : OsState) := tabsOk QR (sF w.params os)
noncomputable def q6 (w : World) (os : OsState) := pinSeenD QR (drecsOf QR) (sF w.params os)
noncomputable def q7 (w : World) (os : OsState) := plainSeenE QR (looseW QR lsR) (sF w.params os)
noncomputable def q8 (w : World) (os : OsState) := (plainSeenD QR lsR (sF w.params os), wideSeen QR (sF w.params os), clsSeenW QR lsR (sF w.params os))
theorem m1 (w : World) (os : OsState) : q1 w os = expectedOf QR := l1 w os
theorem m2 (w : World) (os : OsState) : q2 w os = bltViewBooted := (Prod.mk.inj (l2 w os)).1
theorem mk_ (w : World) (os : OsState) : qk w os = true := (Prod.mk.inj (l2 w os)).2
theorem mr (w : World) (os : OsState) : qr w os = true := l3 w os
theorem m3e (w : World) (os : OsState) : (qk w os = true → qr w os = true → q3 w os = true) := third
theorem m3 (w : World) (os : OsState) : q3 w os = true := m3e w os (mk_ w os) (mr w os)
theorem m5 (w : World) (os : OsState) : q5 w os = true := l4a w os
theorem m6 (w : World) (os : OsState) : q6 w os = pinGoodD (drecsOf QR) := l4b w os
theorem m7 (w : World) (os : OsState) : q7 w os = plainGoodE QR (looseW QR lsR) := l4c w os
theorem m8 (w : World) (os : OsState) : q8 w os = (plainGoodD QR lsR, wideGood QR, clsGoodW QR lsR) := l5 w os
noncomputable def os9 (w : World) (os : OsState) := openSeen QR lsR (importedModules PR.main.body) XtR true (sF w.params os)
theorem A6f (w : World) (os : OsState) : os9 w os = (q1 w os, q2 w os, q3 w os, q5 w os, q6 w os, q7 w os, q8 w os) := by kernel_rfl
noncomputable def og9 := openGood QR lsR
theorem A9q : og9 = (expectedOf QR, bltViewBooted, true, true, pinGoodD (drecsOf QR), plainGoodE QR (looseW QR lsR), (plainGoodD QR lsR, wideGood QR, clsGoodW QR lsR)) := by kernel_rfl
theorem seenR (w : World) (os : OsState) : os9 w os = og9 := by
  rw [A6f, A9q, m1, m2, m3, m5, m6, m7, m8]
end HR
namespace HR
open PySem PySem.W PySem.Calls PyProof.Rows
theorem BDh (w : World) : (fun os => ((staticsOk (importedModules PR.main.body) (boot_heap w.params) (hF w.params) && namesBound PR (hF w.params) && gensDone ⟨hF w.params, #[], {}, 1546, os⟩ && laidKept (boot_heap w.params) (hF w.params)), openSeen QR lsR (importedModules PR.main.body) XtR true ⟨hF w.params, #[], {}, 1546, os⟩, HK.obs ⟨hF w.params, #[], {}, 1546, os⟩)) = fun _ => (true, openGood QR lsR, HK.val w) := by
  funext os
  refine Prod.ext (looka w os) ?_
  exact Prod.ext (seenR w os) (lookk w os)
theorem leftR : LeftO PR QR lsR XtR (Hook.obs HK) (Hook.val HK) 12000 := by
  refine LeftO.of_pieces (H₀ := boot_heap) (H₁ := hF) (gs₀ := #[]) (gs₁ := #[]) (d₀ := boot_drawn) (d₁ := {}) (k₀ := boot_toks) (k₁ := 1546) (m₀ := 11) (ann := some (.ref 6)) openR BBq runR ?_ BDh
  decide
end HR
namespace HR
open PySem PySem.W PySem.Calls PyProof.Rows
noncomputable def dR : DefRec := ⟨"run", L2.AEi Chip.A52, L2.ACy Chip.A52, L2.AAb Chip.A52, ⟨452, 0, 459, 59⟩⟩
theorem hdefR : defOf QR PySem.Challenge.rw_lesserchip_s01_run.name = some (dR, []) := by kernel_rfl
theorem hpR : PySem.Challenge.rw_lesserchip_s01_run.prog.theDef PySem.Challenge.rw_lesserchip_s01_run.name = some (dR.params, dR.body, dR.scope) := by kernel_rfl
theorem hkR : kwWritten? dR.params.kwonlyargs dR.params.kw_defaults = some [] := by kernel_rfl
theorem k1R : PySem.Challenge.rw_lesserchip_s01_run.wellSaid = true := by decide +kernel
theorem okR : (chainsOk QR && opensWell PySem.Challenge.rw_lesserchip_s01_run.prog) = true := by decide +kernel
theorem hwR : ∃ args, PySem.Challenge.rw_lesserchip_s01_run.pre args = true ∧ WData.layableAll args = true :=
  ⟨[.int 0, .list [.int 0, .int 0, .int 0, .int 0, .int 0, .int 0, .int 0, .int 0, .int 0, .int 0, .int 0, .int 0, .int 0, .int 0, .int 0, .int 0, .int 0, .int 0], .list [], .list []], by decide +kernel, by decide +kernel⟩
theorem bareR : PySem.Challenge.rw_lesserchip_s01_run.prog.bare := ⟨rfl, rfl, rfl, rfl, rfl, by decide +kernel⟩
end HR
namespace L2
open PySem PySem.Spec PyProof.Rows
noncomputable abbrev Key := Sum Int Str
noncomputable def AZp : Key → Value → Bool
  | .inl k, v => Value.isInt k v
  | .inr x, v => Value.isStrOf x v
noncomputable def keyH (w : World) : Key → Int
  | .inl k => hashInt k
  | .inr x => hashStr w x
theorem ADd : ∀ {k : Key} {v : Value}, AZp k v = true → (∃ i t, k = Sum.inl i ∧ v = Value.int i t) ∨ (∃ x t, k = Sum.inr x ∧ v = Value.str x t)
  | .inl i, v, h => by
    obtain ⟨t, e⟩ := Value.isInt_shape (k := i) (v := v) h
    exact .inl ⟨i, t, rfl, e⟩
  | .inr x, v, h => by
    obtain ⟨t, e⟩ := Value.isStrOf_shape (x := x) (v := v) h
    exact .inr ⟨x, t, rfl, e⟩
theorem AZf (i : Int) (t : Tok) : AZp (.inl i) (.int i t) = true := by simp [AZp, Value.isInt]
theorem AX7 (x : Str) (t : Tok) : AZp (.inr x) (.str x t) = true := by simp [AZp, Value.isStrOf]
theorem BDe (a b : Int) : decide ((Sum.inl a : Key) = Sum.inl b) = (a == b) := by
  by_cases e : a = b
  · subst e; simp
  · have h : ¬ (Sum.inl a : Key) = Sum.inl b := fun q => e (Sum.inl.inj q)
    rw [decide_eq_false h]
    exact (beq_eq_false_iff_ne.mpr e).symm
theorem BAw (a b : Str) : decide ((Sum.inr a : Key) = Sum.inr b) = decide (a = b) := by
  by_cases e : a = b
  · subst e; simp
  · have h : ¬ (Sum.inr a : Key) = Sum.inr b := fun q => e (Sum.inr.inj q)
    rw [decide_eq_false h, decide_eq_false e]
theorem BBj (a : Int) (b : Str) : decide ((Sum.inl a : Key) = Sum.inr b) = false := decide_eq_false (fun q => nomatch q)
theorem BDg (a : Str) (b : Int) : decide ((Sum.inr a : Key) = Sum.inl b) = false := decide_eq_false (fun q => nomatch q)
noncomputable def AD3 (prog : Program) (w : World) : PySem.KeyKind prog w Key where
  is := AZp
  hash := keyH w
  inj := fun v a b ha hb => by
    rcases ADd ha with ⟨i, t, rfl, rfl⟩ | ⟨x, t, rfl, rfl⟩
    · rcases ADd hb with ⟨j, u, rfl, e⟩ | ⟨y, u, rfl, e⟩
      · injection e with e1 _; rw [e1]
      · exact nomatch e
    · rcases ADd hb with ⟨j, u, rfl, e⟩ | ⟨y, u, rfl, e⟩
      · exact nomatch e
      · injection e with e1 _; rw [e1]
  byValue := fun k v h => by
    rcases ADd h with ⟨i, t, rfl, rfl⟩ | ⟨x, t, rfl, rfl⟩ <;> rfl
  pyHash := fun hv h => by
    rcases ADd hv with ⟨i, t, rfl, rfl⟩ | ⟨x, t, rfl, rfl⟩
    · exact wpAny_pyHash_int h
    · exact wpAny_pyHash_str h
  eqBool := fun hu hv h => by
    rcases ADd hu with ⟨i, t, rfl, rfl⟩ | ⟨x, t, rfl, rfl⟩
    · rcases ADd hv with ⟨j, u, rfl, rfl⟩ | ⟨y, u, rfl, rfl⟩
      · rw [BDe] at h; exact wpAny_eqBool_int h
      · rw [BBj] at h; exact SeqAt.EqAt.int_str i t y u _ _ _ _ h
    · rcases ADd hv with ⟨j, u, rfl, rfl⟩ | ⟨y, u, rfl, rfl⟩
      · rw [BDg] at h; exact SeqAt.EqAt.str_int x t j u _ _ _ _ h
      · rw [BAw] at h; exact wpAny_eqBool_str h
  «strs» := fun k x t v h => by
    rcases ADd h with ⟨i, u, rfl, e⟩ | ⟨y, u, rfl, e⟩
    · exact nomatch e
    · injection e with e1 _
      subst e1
      cases v <;> rfl
theorem AVf (prog : Program) (w : World) (k : Key) (v : Value) : (AD3 prog w).is k v = AZp k v := rfl
theorem ASw (prog : Program) (w : World) (i : Int) (t : Tok) : (AD3 prog w).is (.inl i) (.int i t) = true := AZf i t
theorem AR6 (prog : Program) (w : World) (x : Str) (t : Tok) : (AD3 prog w).is (.inr x) (.str x t) = true := AX7 x t
end L2
namespace L2
open PySem PySem.Spec PyProof.Rows
inductive V where
  | non | bl (b : Bool) | int (i : Int) | str (x : Str) | byt (b : Array UInt8) | flt (b : UInt64) | ref (a : Addr) | ty (n : String)
  deriving DecidableEq
noncomputable def RelV : V → Value → Prop
  | .non, u => u = Value.none
  | .bl b, u => u = Value.bool b
  | .int i, u => ∃ t, u = Value.int i t
  | .str x, u => ∃ t, u = Value.str x t
  | .byt b, u => ∃ t, u = Value.bytes b t
  | .flt b, u => ∃ t, u = Value.float b t
  | .ref a, u => u = Value.ref a
  | .ty n, u => u = Value.type n
noncomputable abbrev Vals : List V → List Value → Prop := Paired RelV
theorem Vals.length {xs : List V} {us : List Value} (r : Vals xs us) : xs.length = us.length := Paired.length r
theorem Vals.get : ∀ {xs : List V} {us : List Value} {i : Nat} {x : V}, Vals xs us → xs[i]? = some x → ∃ u, us[i]? = some u ∧ RelV x u
  | _, _, _, _, .nil, e => by simp at e
  | _, _, 0, _, .cons r _, e => by simp at e; subst e; exact ⟨_, rfl, r⟩
  | _, _, i + 1, x, .cons _ t, e => by
    obtain ⟨u, h1, h2⟩ := Vals.get (i := i) (x := x) t (by simpa using e)
    exact ⟨u, by simpa using h1, h2⟩
theorem Vals.set {x : V} {u : Value} (r : RelV x u) : ∀ {xs : List V} {us : List Value} (i : Nat), Vals xs us → Vals (xs.set i x) (us.set i u)
  | _, _, _, .nil => .nil
  | _, _, 0, .cons _ t => .cons r t
  | _, _, i + 1, .cons q t => .cons q (Vals.set r i t)
theorem Vals.append : ∀ {xs ys : List V} {us ws : List Value}, Vals xs us → Vals ys ws → Vals (xs ++ ys) (us ++ ws)
  | _, _, _, _, .nil, s => s
  | _, _, _, _, .cons r t, s => .cons r (Vals.append t s)
theorem Vals.take : ∀ {xs : List V} {us : List Value} (n : Nat), Vals xs us → Vals (xs.take n) (us.take n)
  | _, _, 0, _ => .nil
  | _, _, _ + 1, .nil => .nil
  | _, _, n + 1, .cons r t => .cons r (Vals.take n t)
theorem Vals.drop : ∀ {xs : List V} {us : List Value} (n : Nat), Vals xs us → Vals (xs.drop n) (us.drop n)
  | _, _, 0, r => r
  | _, _, _ + 1, .nil => .nil
  | _, _, n + 1, .cons _ t => Vals.drop n t
noncomputable def RelO : Option V → Option Value → Prop
  | some v, some u => RelV v u
  | none, none => True
  | _, _ => False
noncomputable def KV {κ : Type} : List (κ × V) → List (κ × Value) → Prop := Paired fun (p : κ × V) (q : κ × Value) => p.1 = q.1 ∧ RelV p.2 q.2
noncomputable def kV : Key → V
  | .inl i => .int i
  | .inr x => .str x
inductive HO where
    | lst (xs : List V)
    | tup (xs : List V)
    | dK (kvs : List (Key × V)) | dT (kvs : List (List Key × V))
    | set (S : Int → Bool) (n : Nat)
    | ins (C dx : Addr) (fs : List (Str × V))
    | own (x : Addr)
    | xd (fs : List (Str × V))
    | met (f x : Addr)
    | rng (lo hi : Int)
    | frz (o : Obj) (u : HO)
    | tbl (ps : Array Value)
    | ext (φ : Heap → Prop)
noncomputable abbrev Hp := Addr → Option HO
noncomputable def upd (H : Hp) (a : Addr) (o : HO) : Hp := fun b => if b = a then some o else H b
theorem AAv {H : Hp} {a : Addr} {o : HO} : upd H a o a = some o := by unfold upd; rw [if_pos rfl]
theorem ABi {H : Hp} {a b : Addr} {o : HO} (h : b ≠ a) : upd H a o b = H b := by unfold upd; rw [if_neg h]
theorem APe {H : Hp} {a b : Addr} {o u : HO} (h : H a = some o) (h' : H b = some u) (d : o ≠ u) : a ≠ b := by
  intro e; subst e; rw [h] at h'; exact d (Option.some.inj h')
theorem ACb {H : Hp} {a b : Addr} {o : HO} (h : H a = some o) (h' : H b = none) : a ≠ b := by
  intro e; subst e; rw [h] at h'; cases h'
section
variable (P : Program) (w : World)
noncomputable def ALd (H : Hp) (h : Heap) (a : Addr) : HO → Prop
  | .lst xs => xs.length ≤ sizeLine ∧ ∃ (its : List Value) (n : Nat), Vals xs its ∧ h.get? a = some { cls := .type "list", data := .seq its.toArray n }
  | .tup xs => xs.length ≤ sizeLine ∧ ∃ its : List Value, Vals xs its ∧ IsTup h a its.toArray
  | .dK kvs => kvs.length ≤ sizeLine ∧ (a == sysModules) = false ∧ ∃ vs, KV kvs vs ∧ h.DictOf (AD3 P w) a vs
  | .dT kvs => kvs.length ≤ sizeLine ∧ (a == sysModules) = false ∧ ∃ xs : List (List Key × Addr × Value),
      Paired (fun (p : List Key × V) (q : List Key × Addr × Value) => p.1 = q.1 ∧ H q.2.1 = some (.tup (p.1.map kV)) ∧ RelV p.2 q.2.2) kvs xs ∧
      ∃ o es ep, h.get? a = some o ∧ o.ExactDict ∧ o.data = .dict es ep ∧ es.toList = xs.map (entryOfKey (tupleKind (AD3 P w))) ∧ (xs.map (·.1)).Nodup
  | .set S n => h.SetOf (intKind P w) a S n
  | .ins C dx fs => H dx = some (.own a) ∧ fs.length ≤ 1000 ∧ dx ≠ a ∧ h.get? a = some (PySem.W.instObj C dx) ∧
      ∃ mA, h.Ns1 dx mA ∧ (∀ f, RelO (fs.lookup f) (mA f)) ∧ PySem.Within mA (fs.map (·.1))
  | .own _ => ∃ o, h.get? a = some o
  | .xd fs => ∃ mA, h.Ns1 a mA ∧ ∀ f, RelO (fs.lookup f) (mA f)
  | .rng lo hi => ∃ t u v, h.get? a = some { cls := .type "range", data := .fields #[.int lo t, .int hi u, .int 1 v] }
  | .frz o u => h.get? a = some o ∧ ALd H h a u
  | .tbl ps => h.get? a = some { cls := .none, data := .fields ps }
  | .met f x => h.get? a = some (PySem.W.methodObj (.ref f) (.ref x))
  | .ext φ => φ h ∧ (∃ o, h.get? a = some o) ∧ ∀ h1 h2 : Heap, φ h1 → (∀ o, h1.get? a = some o → h2.get? a = some o) → φ h2
noncomputable def HOk (H : Hp) (h : Heap) : Prop := ∀ a o, H a = some o → ALd P w H h a o
end
section
variable {P : Program} {w : World} {H H' : Hp} {h h' : Heap} {a : Addr} {o : HO}
theorem ALd.lt (x : ALd P w H h a o) : a < h.objs.size := by
  cases o with
  | lst xs => obtain ⟨_, _, _, _, e⟩ := x; exact Heap.lt_size e
  | tup xs => obtain ⟨_, _, _, p⟩ := x; exact p.lt
  | dK kvs => obtain ⟨_, _, _, _, o, _, _, e, _⟩ := x; exact Heap.lt_size e
  | dT kvs => obtain ⟨_, _, _, _, o, _, _, e, _⟩ := x; exact Heap.lt_size e
  | set S n => obtain ⟨o, _, _, _, e, _⟩ := x; exact Heap.lt_size e
  | ins C dx fs => obtain ⟨_, _, _, e, _⟩ := x; exact Heap.lt_size e
  | own y => obtain ⟨_, e⟩ := x; exact Heap.lt_size e
  | xd fs => obtain ⟨_, ⟨_, _, _, e, _⟩, _⟩ := x; exact Heap.lt_size e
  | rng lo hi => obtain ⟨_, _, _, e⟩ := x; exact Heap.lt_size e
  | frz ob u => obtain ⟨e, _⟩ := x; exact Heap.lt_size e
  | tbl ps => exact Heap.lt_size (show h.get? a = some _ from x)
  | met f y => exact Heap.lt_size (show h.get? a = some _ from x)
  | ext φ => obtain ⟨_, ⟨_, e⟩, _⟩ := x; exact Heap.lt_size e
theorem Paired.mapP {α β : Type} {F G : α → β → Prop} : ∀ {l₁ : List α} {l₂ : List β}, Paired F l₁ l₂ → (∀ a b, F a b → G a b) → Paired G l₁ l₂
  | _, _, .nil, _ => .nil
  | _, _, .cons r t, f => .cons (f _ _ r) (Paired.mapP t f)
theorem ALd.stay (x : ALd P w H h a o) (k : ∀ b u, (b = a ∨ H b = some (.own a)) → h.get? b = some u → h'.get? b = some u)
    (ho : ∀ b, H b = some (.own a) → H' b = some (.own a)) (ht : ∀ b xs, H b = some (.tup xs) → H' b = some (.tup xs)) : ALd P w H' h' a o := by
  induction o with
  | lst xs => obtain ⟨z, its, n, r, e⟩ := x; exact ⟨z, its, n, r, k _ _ (.inl rfl) e⟩
  | tup xs => obtain ⟨z, its, r, ob, e, c⟩ := x; exact ⟨z, its, r, ob, k _ _ (.inl rfl) e, c⟩
  | dK kvs => obtain ⟨z, y, vs, r, ob, es, ep, e, c⟩ := x; exact ⟨z, y, vs, r, ob, es, ep, k _ _ (.inl rfl) e, c⟩
  | dT kvs =>
    obtain ⟨z, y, xs, r, ob, es, ep, e, c⟩ := x
    exact ⟨z, y, xs, Paired.mapP r fun p q z => ⟨z.1, ht _ _ z.2.1, z.2.2⟩, ob, es, ep, k _ _ (.inl rfl) e, c⟩
  | set S n => obtain ⟨ob, es, ep, t, e, c⟩ := x; exact ⟨ob, es, ep, t, k _ _ (.inl rfl) e, c⟩
  | ins C dx fs =>
    obtain ⟨d, z, ne, e, mA, ⟨od, es, ep, e2, c⟩, r⟩ := x
    exact ⟨ho _ d, z, ne, k _ _ (.inl rfl) e, mA, ⟨od, es, ep, k _ _ (.inr d) e2, c⟩, r⟩
  | own y => obtain ⟨ob, e⟩ := x; exact ⟨ob, k _ _ (.inl rfl) e⟩
  | xd fs => obtain ⟨mA, ⟨od, es, ep, e, c⟩, r⟩ := x; exact ⟨mA, ⟨od, es, ep, k _ _ (.inl rfl) e, c⟩, r⟩
  | rng lo hi => obtain ⟨t, u, v, e⟩ := x; exact ⟨t, u, v, k _ _ (.inl rfl) e⟩
  | frz ob u ih => obtain ⟨e, q⟩ := x; exact ⟨k _ _ (.inl rfl) e, ih q⟩
  | tbl ps =>
    have e : h.get? a = some { cls := .none, data := .fields ps } := x
    show h'.get? a = some { cls := .none, data := .fields ps }
    exact k a _ (.inl rfl) e
  | met f y =>
    have e : h.get? a = some (PySem.W.methodObj (.ref f) (.ref y)) := x
    show h'.get? a = some (PySem.W.methodObj (.ref f) (.ref y))
    exact k a _ (.inl rfl) e
  | ext φ => obtain ⟨p, ⟨o, e⟩, st⟩ := x; exact ⟨st _ _ p fun o q => k _ _ (.inl rfl) q, ⟨o, k _ _ (.inl rfl) e⟩, st⟩
theorem HOk.lt (x : HOk P w H h) (e : H a = some o) : a < h.objs.size := (x a o e).lt
theorem HOk.fresh (x : HOk P w H h) (e : h.objs.size ≤ a) : H a = none := by
  cases q : H a with
  | none => rfl
  | some u => exact absurd (Nat.lt_of_lt_of_le (x.lt q) e) (Nat.lt_irrefl _)
theorem HOk.kept (x : HOk P w H h) (k : ∀ b u, h.get? b = some u → h'.get? b = some u) : HOk P w H h' := fun a o e =>
  (x a o e).stay (fun b u _ q => k b u q) (fun _ q => q) fun _ _ q => q
theorem HOk.laid (x : HOk P w H h) (k : ∀ b u, h.get? b = some u → h'.get? b = some u) (hp : h.objs.size ≤ a) (new : ALd P w (upd H a o) h' a o) : HOk P w (upd H a o) h' := fun b u e => by
  have hn := x.fresh hp
  by_cases hb : b = a
  · subst hb; rw [AAv] at e; cases e; exact new
  · rw [ABi hb] at e
    exact (x b u e).stay (fun c v _ q => k c v q) (fun c q => by rw [ABi (ACb q hn)]; exact q) fun c xs q => by rw [ABi (ACb q hn)]; exact q
end
noncomputable def Rd (H : Hp) (a : Addr) (u : HO) : Prop := H a = some u ∨ ∃ o, H a = some (.frz o u)
theorem Rd.of {H : Hp} {a : Addr} {u : HO} (h : H a = some u) : Rd H a u := .inl h
theorem Rd.ok {P : Program} {w : World} {H : Hp} {h : Heap} {a : Addr} {u : HO} (r : Rd H a u) (x : HOk P w H h) : ALd P w H h a u := by
  rcases r with r | ⟨o, r⟩
  · exact x a u r
  · obtain ⟨_, q⟩ := x a _ r
    exact q
noncomputable def Mut : Option HO → Prop
  | some (.lst _) => True
  | some (.dK _) => True
  | some (.dT _) => True
  | some (.set _ _) => True
  | some (.ins _ _ _) => True
  | some (.ext _) => True
  | _ => False
section
variable {P : Program} {w : World} {H : Hp} {h h' : Heap} {x e : Addr} {o' : HO}
theorem HOk.write (ok : HOk P w H h) (mu : Mut (H x)) (he : e = x ∨ H e = some (.own x)) (k : ∀ b u, b ≠ e → h.get? b = some u → h'.get? b = some u) (heo : ∃ u, h'.get? e = some u)
    (new : ALd P w (upd H x o') h' x o') : HOk P w (upd H x o') h' := fun b u q => by
  have nown : ∀ c y, H c = some (.own y) → c ≠ x := fun c y r z => by subst z; rw [r] at mu; exact mu
  have ntup : ∀ c xs, H c = some (.tup xs) → c ≠ x := fun c xs r z => by subst z; rw [r] at mu; exact mu
  by_cases hb : b = x
  · subst hb; rw [AAv] at q; cases q; exact new
  · rw [ABi hb] at q
    by_cases hbe : b = e
    · have q' : H b = some (.own x) := by
        rcases he with z | z
        · exact absurd (hbe.trans z) hb
        · rw [hbe]; exact z
      rw [q] at q'; cases q'
      obtain ⟨v, hv⟩ := heo
      exact ⟨v, by rw [hbe]; exact hv⟩
    · refine (ok b u q).stay (fun c v hc r => k c v ?_ r) (fun c r => by rw [ABi (nown c b r)]; exact r) fun c xs r => by rw [ABi (ntup c xs r)]; exact r
      rcases hc with rfl | hc
      · exact hbe
      · rintro rfl
        rcases he with z | z
        · exact nown c b hc z
        · rw [hc] at z; cases z; exact hb rfl
end
structure Un (fs ex : List Addr) (H H' : Hp) (h h' : Heap) : Prop where
  keep : ∀ b o, h.get? b = some o → H b = none → b ∉ fs → b ∉ ex → h'.get? b = some o
  slot : ∀ b o, h.get? b = some o → H b = none → b ∈ fs → b ∉ ex → ∃ sl, h'.get? b = some { o with slots := sl }
  free : ∀ b o, h.get? b = some o → H b = none → b ∉ ex → H' b = none
  there : ∀ b o, h.get? b = some o → b ∉ ex → ∃ o', h'.get? b = some o'
  tups : ∀ b xs, H b = some (.tup xs) → H' b = some (.tup xs)
  frzs : ∀ b o u, H b = some (.frz o u) → H' b = some (.frz o u)
  tbls : ∀ b ps, H b = some (.tbl ps) → ∃ more, H' b = some (.tbl (ps ++ more))
section
variable {fs fs' ex ex' : List Addr} {H H1 H2 : Hp} {h h1 h2 h' : Heap} {a x e : Addr} {o : HO}
theorem Un.any (u : Un fs ex H H1 h h1) {b : Addr} {ob : Obj} (q : h.get? b = some ob) (n : H b = none) (hx : b ∉ ex) : ∃ sl, h1.get? b = some { ob with slots := sl } := by
  by_cases hb : b ∈ fs
  · exact u.slot b ob q n hb hx
  · exact ⟨ob.slots, u.keep b ob q n hb hx⟩
theorem Un.kept (k : ∀ b u, h.get? b = some u → h'.get? b = some u) : Un fs ex H H h h' :=
  ⟨fun b ob q _ _ _ => k b ob q, fun b ob q _ _ _ => ⟨ob.slots, k b ob q⟩, fun _ _ _ n _ => n, fun b ob q _ => ⟨ob, k b ob q⟩, fun _ _ q => q, fun _ _ _ q => q, fun _ ps q => ⟨#[], by rw [q]; simp⟩⟩
theorem Un.refl : Un fs ex H H h h := Un.kept fun _ _ q => q
theorem Un.laid (k : ∀ b u, h.get? b = some u → h'.get? b = some u) (hp : h.objs.size ≤ a) (hn : H a = none) : Un fs ex H (upd H a o) h h' where
  keep := fun b u q _ _ _ => k b u q
  slot := fun b u q _ _ _ => ⟨u.slots, k b u q⟩
  free := fun b u q n _ => by rw [ABi (Nat.ne_of_lt (Nat.lt_of_lt_of_le (Heap.lt_size q) hp))]; exact n
  there := fun b u q _ => ⟨u, k b u q⟩
  tups := fun b xs q => by rw [ABi (ACb q hn)]; exact q
  frzs := fun b u xs q => by rw [ABi (ACb q hn)]; exact q
  tbls := fun b ps q => ⟨#[], by rw [ABi (ACb q hn), q]; simp⟩
theorem Un.write (mu : Mut (H x)) (he : e = x ∨ H e = some (.own x)) (k : ∀ b u, b ≠ e → h.get? b = some u → h'.get? b = some u) (heo : ∃ u, h'.get? e = some u) : Un fs ex H (upd H x o) h h' := by
  have hx : ∀ b, H b = none → b ≠ x := fun b n z => by subst z; rw [n] at mu; exact mu
  have hb : ∀ b, H b = none → b ≠ e := fun b n z => by
    subst z
    rcases he with r | r
    · exact hx b n r
    · rw [n] at r; cases r
  have hm : ∀ b u, H b = some u → ¬ Mut (some u) → b ≠ x := fun b u q nm z => by subst z; rw [q] at mu; exact nm mu
  refine ⟨fun b u q n _ _ => k b u (hb b n) q, fun b u q n _ _ => ⟨u.slots, k b u (hb b n) q⟩, fun b u q n _ => by rw [ABi (hx b n)]; exact n, fun b u q _ => ?_,
    fun b xs q => by rw [ABi (hm b _ q fun z => z)]; exact q, fun b u xs q => by rw [ABi (hm b _ q fun z => z)]; exact q, fun b ps q => ⟨#[], by rw [ABi (hm b _ q fun z => z), q]; simp⟩⟩
  by_cases hbe : b = e
  · subst hbe; exact heo
  · exact ⟨u, k b u hbe q⟩
end
noncomputable def trk (h : Heap) (H : Hp) : List Addr := (List.range h.objs.size).filter fun a => (H a).isSome
noncomputable def hidT (h : Heap) (H : Hp) : Heap := PySem.W.hideAll h (trk h H)
theorem AZm (h : Heap) (H : Hp) : (hidT h H).objs.size = h.objs.size := PySem.W.hideAll_size _ _
theorem AU7 {h : Heap} {H : Hp} {b : Addr} {o : Obj} (e : h.get? b = some o) (n : H b = none) : (hidT h H).get? b = some o :=
  PySem.W.hideAll_get _ e fun hm => by
    have q : (H b).isSome = true := (List.mem_filter.mp hm).2
    rw [n] at q; simp at q
theorem A6r {h : Heap} {H : Hp} {b : Addr} {o : Obj} (e : (hidT h H).get? b = some o) : h.get? b = some o ∧ H b = none := by
  have e' : h.get? b = some o := PySem.W.of_hideAll (trk h H) e
  refine ⟨e', ?_⟩
  cases q : H b with
  | none => rfl
  | some x =>
    have hm : b ∈ trk h H := List.mem_filter.mpr ⟨List.mem_range.mpr (Heap.lt_size e'), by simp [q]⟩
    have z : (hidT h H).get? b = none := PySem.W.hideAll_none (trk h H) hm
    rw [z] at e; cases e
end L2
namespace L2
open PySem PySem.Spec PyProof.Rows
structure Mod (K : Frag) (mg : Str → Option Value) (base : Heap) : Prop where
  kin : K.In base
  glob : base.Ns mainGlobals mg
  blt : ∃ mb, base.Ns builtinsNs mb ∧ ∀ x : Str, x ≠ "__name__" → mb x = bootBuiltins x
  nolimit : base.NoLimit
structure Cx where
  prog : Program
  w : World
  K : Frag
  mg : Str → Option Value
  base : Heap
  A : Around
  N : List Str
  s_0 : Shared
  H_0 : Hp
  env : Env
  outer : List Env
  stack : List Env
  ex : List Addr
  fn : Str → Bool
  calm : Bool
  pn : List (Addr × Obj)
  xe : Value → Shared → Prop
noncomputable def frs (l : List Env) : List Addr := l.filterMap (·.frame)
noncomputable abbrev Cx.fs (X : Cx) : List Addr := frs X.outer
noncomputable def Vis (sc : Scope) (x : Str) : Prop := sc.names.lookup x = some .local ∨ sc.names.lookup x = some .cell ∨ sc.names.lookup x = some .free
noncomputable def Loc (sc : Scope) (x : Str) : Prop := sc.names.lookup x = some .local ∨ sc.names.lookup x = some .cell
noncomputable def Look (env : Env) (h : Heap) (m : Str → Option Value) (x : Str) (u : Value) : Prop :=
  (env.kindOf x = some .local ∧ m x = some u) ∨ ((env.kindOf x = some .cell ∨ env.kindOf x = some .free) ∧ ∃ c, env.cells.lookup x = some c ∧ h.IsCell c (some u))
structure Cx.Ok (X : Cx) : Prop where
  mod : Mod X.K X.mg X.base
  kind : X.env.scope.kind = .function
  glob : X.env.globals = mainGlobals
  blt : X.env.builtins = builtinsNs
  above : X.s_0.heap.objs.size ≤ X.env.locals
  inj : ∀ x y c, X.env.cells.lookup x = some c → X.env.cells.lookup y = some c → x = y
  has : ∀ x, (X.env.kindOf x = some .cell ∨ X.env.kindOf x = some .free) → ∃ c, X.env.cells.lookup x = some c
  cab : ∀ x c, X.fn x = true → X.env.cells.lookup x = some c → X.s_0.heap.objs.size ≤ c
  hd : X.calm = true → X.A.handled = none
  frames : X.A.frames = some X.stack
  stk : X.stack = X.outer ∨ (X.stack = X.env :: X.outer ∧ X.env.frame = some X.env.locals)
  exf : ∀ b ∈ X.ex, b ≠ X.env.locals ∧ ∀ x c, X.env.cells.lookup x = some c → c ≠ b
  bs : ∀ b o, X.base.get? b = some o → X.s_0.heap.get? b = some o ∧ X.H_0 b = none
  bsz : X.base.objs.size ≤ X.s_0.heap.objs.size
  noex : ∀ b o, X.base.get? b = some o → b ∉ X.ex
  exfs : ∀ b ∈ X.ex, b ∉ X.fs
  funs : X.s_0.heap.FunFrames X.base X.outer
  frf : ∀ b ∈ X.fs, X.H_0 b = none
structure Inv (X : Cx) (pins : List (Addr × Obj)) (σ : List (Option V)) (H : Hp) (s : Shared) : Prop where
  ok : X.Ok
  os : s.os = X.s_0.os
  bare : AllBare s.gens
  base : Un X.fs X.ex X.H_0 H X.s_0.heap s.heap
  loc : ∃ m, s.heap.Ns X.env.locals m ∧ ∀ (i : Nat) (x : Str) (v : V), X.N[i]? = some x → σ[i]? = some (some v) → Vis X.env.scope x → ∃ u, RelV v u ∧ Look X.env s.heap m x u
  cell : ∀ x c, X.env.cells.lookup x = some c → ∃ v, s.heap.IsCell c v
  free : H X.env.locals = none
  freeC : ∀ x c, X.env.cells.lookup x = some c → H c = none
  pin : ∀ p ∈ X.pn ++ pins, s.heap.get? p.1 = some p.2 ∧ H p.1 = none ∧ p.1 ≠ X.env.locals ∧ p.1 ∉ X.fs ∧ ∀ v, p.2.data ≠ .cell v
  hok : HOk X.prog X.w H s.heap
  len : σ.length = X.N.length
section
variable {X : Cx} {pins : List (Addr × Obj)} {σ : List (Option V)} {H H' : Hp} {s : Shared} {h' : Heap}
theorem Cx.Ok.nofr (ok : X.Ok) {b : Addr} {o : Obj} (e : X.base.get? b = some o) : b ∉ X.fs := fun hb => by
  have := (ok.funs.mem hb).1
  rw [e] at this; cases this
theorem Inv.bs (I : Inv X pins σ H s) : ∀ b o, X.base.get? b = some o → s.heap.get? b = some o ∧ H b = none := fun b o e =>
  ⟨I.base.keep b o (I.ok.bs b o e).1 (I.ok.bs b o e).2 (I.ok.nofr e) (I.ok.noex b o e), I.base.free b o (I.ok.bs b o e).1 (I.ok.bs b o e).2 (I.ok.noex b o e)⟩
theorem Inv.bk (I : Inv X pins σ H s) : ∀ b o, X.base.get? b = some o → s.heap.get? b = some o := fun b o e => (I.bs b o e).1
theorem Inv.mod (I : Inv X pins σ H s) : Mod X.K X.mg X.base := I.ok.mod
theorem Inv.kIn (I : Inv X pins σ H s) : X.K.In s.heap := I.ok.mod.kin.keeps I.bk
theorem Inv.lt (I : Inv X pins σ H s) : X.env.locals < s.heap.objs.size := let ⟨_, hn, _⟩ := I.loc; hn.lt
theorem Inv.sz (I : Inv X pins σ H s) : X.s_0.heap.objs.size ≤ s.heap.objs.size := Nat.le_trans I.ok.above (Nat.le_of_lt I.lt)
theorem Inv.nofs (I : Inv X pins σ H s) {a : Addr} (h : s.heap.objs.size ≤ a) : a ∉ X.fs := fun hb => by
  obtain ⟨_, o, ho, _⟩ := I.ok.funs.mem hb
  exact absurd (Nat.lt_of_lt_of_le (Heap.lt_size ho) (Nat.le_trans I.sz h)) (Nat.lt_irrefl _)
theorem Inv.cne (I : Inv X pins σ H s) : ∀ x c, X.env.cells.lookup x = some c → c ≠ X.env.locals := fun x c e z => by
  obtain ⟨v, o, ho, hd⟩ := I.cell x c e
  obtain ⟨m, ⟨o', es, ep, ho', hd', _⟩, _⟩ := I.loc
  rw [z, ho'] at ho; cases ho; rw [hd'] at hd; cases hd
theorem Inv.funs (I : Inv X pins σ H s) : s.heap.FunFrames X.base X.outer := by
  have all : ∀ (l : List Env), (∀ b ∈ frs l, b ∈ X.fs) → X.s_0.heap.FunFrames X.base l → s.heap.FunFrames X.base l := by
    intro l
    induction l with
    | nil => intro _ _; trivial
    | cons env r ih =>
      intro hs hl
      obtain ⟨hk, ⟨L, o, hf, hn, ho, hd⟩, hr⟩ := hl
      have hL : L ∈ X.fs := hs L (by unfold frs; rw [List.filterMap_cons, hf]; exact List.mem_cons_self)
      obtain ⟨sl, e⟩ := I.base.slot L o ho (I.ok.frf L hL) hL fun z => I.ok.exfs L z hL
      exact ⟨hk, ⟨L, _, hf, hn, e, hd⟩, ih (fun b hb => hs b (by unfold frs; rw [List.filterMap_cons, hf]; exact List.mem_cons_of_mem _ hb)) hr⟩
  exact all X.outer (fun _ hb => hb) I.ok.funs
theorem Inv.stack (I : Inv X pins σ H s) : s.heap.FunFrames X.base X.stack := by
  rcases I.ok.stk with e | ⟨e, hf⟩
  · rw [e]; exact I.funs
  · rw [e]
    obtain ⟨m, hn, _⟩ := I.loc
    refine .cons (by rw [I.ok.kind]; decide) hf hn ?_ I.funs
    exact Heap.get?_none_of_le (Nat.le_trans I.ok.bsz I.ok.above)
theorem Inv.stkSub (I : Inv X pins σ H s) : ∀ b ∈ frs X.stack, b ∈ X.env.locals :: X.fs := fun b hb => by
  rcases I.ok.stk with e | ⟨e, hf⟩
  · rw [e] at hb; exact List.mem_cons_of_mem _ hb
  · rw [e] at hb
    unfold frs at hb
    rw [List.filterMap_cons, hf] at hb
    exact hb
theorem Inv.stkFree (I : Inv X pins σ H s) : ∀ b ∈ frs X.stack, H b = none := fun b hb => by
  rcases List.mem_cons.mp (I.stkSub b hb) with e | hb
  · rw [e]; exact I.free
  · obtain ⟨_, o, ho, _⟩ := I.ok.funs.mem hb
    exact I.base.free b o ho (I.ok.frf b hb) fun z => I.ok.exfs b z hb
theorem Inv.step {g' : Array GenState} {t' : Nat} {d' : Drawn} {ch : List Addr} (I : Inv X pins σ H s)
    (hch : ∀ b ∈ ch, (b ∈ X.ex ∨ X.s_0.heap.objs.size ≤ b) ∧ b ≠ X.env.locals ∧ (∀ x c, X.env.cells.lookup x = some c → c ≠ b) ∧ ∀ p ∈ X.pn ++ pins, p.1 ≠ b)
    (keep : ∀ b o, b ≠ X.env.locals → b ∉ X.fs → b ∉ ch → s.heap.get? b = some o → H b = none → h'.get? b = some o)
    (slot : ∀ b o, b ≠ X.env.locals → b ∈ X.fs → b ∉ ch → s.heap.get? b = some o → H b = none → ∃ sl, h'.get? b = some { o with slots := sl }) (free : ∀ b o, b ∉ ch → s.heap.get? b = some o → H b = none → H' b = none)
    (there : ∀ b o, b ∉ ch → s.heap.get? b = some o → ∃ o', h'.get? b = some o')
    (tups : ∀ b xs, H b = some (.tup xs) → H' b = some (.tup xs)) (frzs : ∀ b o u, H b = some (.frz o u) → H' b = some (.frz o u)) (tbls : ∀ b ps, H b = some (.tbl ps) → ∃ more, H' b = some (.tbl (ps ++ more)))
    (ns : ∀ m, s.heap.Ns X.env.locals m → h'.Ns X.env.locals m) (hok : HOk X.prog X.w H' h') (hg : AllBare g') :
    Inv X pins σ H' { s with heap := h', gens := g', drawn := d', toks := t' } := by
  have neL : ∀ b o, X.s_0.heap.get? b = some o → b ≠ X.env.locals := fun b o e => Nat.ne_of_lt (Nat.lt_of_lt_of_le (Heap.lt_size e) I.ok.above)
  have neC : ∀ b o, X.s_0.heap.get? b = some o → b ∉ X.ex → b ∉ ch := fun b o e hx hb => by
    rcases (hch b hb).1 with z | z
    · exact hx z
    · exact absurd (Nat.lt_of_lt_of_le (Heap.lt_size e) z) (Nat.lt_irrefl _)
  have cellK : ∀ x c, X.env.cells.lookup x = some c → ∀ v, s.heap.IsCell c v → h'.IsCell c v := fun x c e v ⟨o, ho, hd⟩ => by
    have nch : c ∉ ch := fun z => (hch c z).2.2.1 x c e rfl
    by_cases hc : c ∈ X.fs
    · obtain ⟨sl, q⟩ := slot c o (I.cne x c e) hc nch ho (I.freeC x c e)
      exact ⟨_, q, hd⟩
    · exact ⟨o, keep c o (I.cne x c e) hc nch ho (I.freeC x c e), hd⟩
  refine ⟨I.ok, I.os, hg, ⟨fun b o e n hb hx => ?_, fun b o e n hb hx => ?_, fun b o e n hx => ?_, fun b o e hx => ?_, fun b xs e => tups b xs (I.base.tups b xs e), fun b o xs e => frzs b o xs (I.base.frzs b o xs e), fun b ps e => ?_⟩, ?_, fun x c e => ?_, ?_, fun x c e => ?_, fun p hp => ?_, hok, I.len⟩
  · exact keep b o (neL b o e) hb (neC b o e hx) (I.base.keep b o e n hb hx) (I.base.free b o e n hx)
  · obtain ⟨sl, e1⟩ := I.base.slot b o e n hb hx
    obtain ⟨sl', e2⟩ := slot b _ (neL b o e) hb (neC b o e hx) e1 (I.base.free b o e n hx)
    exact ⟨sl', e2⟩
  · obtain ⟨o', e1⟩ := I.base.there b o e hx
    exact free b o' (neC b o e hx) e1 (I.base.free b o e n hx)
  · obtain ⟨o', e1⟩ := I.base.there b o e hx
    exact there b o' (neC b o e hx) e1
  · obtain ⟨m1, e1⟩ := I.base.tbls b ps e
    obtain ⟨m2, e2⟩ := tbls b _ e1
    exact ⟨m1 ++ m2, by rw [e2, Array.append_assoc]⟩
  · obtain ⟨m, hn, hl⟩ := I.loc
    refine ⟨m, ns m hn, fun i x v e1 e2 e3 => ?_⟩
    obtain ⟨u, r, l⟩ := hl i x v e1 e2 e3
    refine ⟨u, r, ?_⟩
    rcases l with l | ⟨k, c, e, z⟩
    · exact .inl l
    · exact .inr ⟨k, c, e, cellK x c e _ z⟩
  · obtain ⟨v, z⟩ := I.cell x c e
    exact ⟨v, cellK x c e v z⟩
  · obtain ⟨m, ⟨o, _, _, ho, _⟩, _⟩ := I.loc
    exact free _ o (fun z => (hch _ z).2.1 rfl) ho I.free
  · obtain ⟨v, o, ho, hd⟩ := I.cell x c e
    exact free c o (fun z => (hch c z).2.2.1 x c e rfl) ho (I.freeC x c e)
  · obtain ⟨e, n, ne, nf, d⟩ := I.pin p hp
    have nch : p.1 ∉ ch := fun z => (hch p.1 z).2.2.2 p hp rfl
    exact ⟨keep p.1 p.2 ne nf nch e n, free p.1 p.2 nch e n, ne, nf, d⟩
theorem Inv.un {t' : Nat} (I : Inv X pins σ H s) (u : Un X.fs [] H H' s.heap h') (hok : HOk X.prog X.w H' h') : Inv X pins σ H' { s with heap := h', toks := t' } := by
  obtain ⟨m, ⟨o, es, ep, ho, r⟩, _⟩ := id I.loc
  obtain ⟨sl, hL⟩ := u.any ho I.free (by simp)
  exact I.step (g' := s.gens) (d' := s.drawn) (ch := []) (fun _ z => nomatch z) (fun b o _ hb _ e n => u.keep b o e n hb (by simp)) (fun b o _ hb _ e n => u.slot b o e n hb (by simp)) (fun b o _ e n => u.free b o e n (by simp)) (fun b o _ e => u.there b o e (by simp)) u.tups u.frzs u.tbls (fun m' hm => by
    obtain ⟨o', es', ep', ho', r'⟩ := hm
    rw [ho] at ho'; cases ho'
    exact ⟨_, es', ep', hL, r'⟩) hok I.bare
theorem Inv.call {g' : Array GenState} {t' : Nat} {d' : Drawn} {ch : List Addr} (I : Inv X pins σ H s) (u : Un (frs X.stack) ch H H' s.heap h') (hok : HOk X.prog X.w H' h') (hg : AllBare g')
    (hch : ∀ b ∈ ch, (b ∈ X.ex ∨ X.s_0.heap.objs.size ≤ b) ∧ b ≠ X.env.locals ∧ (∀ x c, X.env.cells.lookup x = some c → c ≠ b) ∧ ∀ p ∈ X.pn ++ pins, p.1 ≠ b) :
    Inv X pins σ H' { s with heap := h', gens := g', drawn := d', toks := t' } := by
  obtain ⟨m, ⟨o, es, ep, ho, r⟩, _⟩ := id I.loc
  obtain ⟨sl, hL⟩ := u.any ho I.free fun z => (hch _ z).2.1 rfl
  exact I.step (ch := ch) hch (fun b o hL hb hc e n => u.keep b o e n (fun z => (List.mem_cons.mp (I.stkSub b z)).elim hL hb) hc) (fun b o _ _ hc e n => u.any e n hc) (fun b o hc e n => u.free b o e n hc) (fun b o hc e => u.there b o e hc) u.tups u.frzs u.tbls (fun m' hm => by
    obtain ⟨o', es', ep', ho', r'⟩ := hm
    rw [ho] at ho'; cases ho'
    exact ⟨_, es', ep', hL, r'⟩) hok hg
theorem Inv.turned {t' : Nat} {it : Addr} (I : Inv X pins σ H s) (k : ∀ b o, b ≠ it → s.heap.get? b = some o → h'.get? b = some o) (hn : H it = none) (hL : it ≠ X.env.locals)
    (h1 : it ∈ X.ex ∨ X.s_0.heap.objs.size ≤ it) (h2 : ∀ x c, X.env.cells.lookup x = some c → c ≠ it) (h3 : ∀ p ∈ X.pn ++ pins, p.1 ≠ it) : Inv X pins σ H { s with heap := h', toks := t' } := by
  have nit : ∀ b u, H b = some u → b ≠ it := fun b u e z => by rw [z, hn] at e; cases e
  refine I.step (g' := s.gens) (d' := s.drawn) (ch := [it]) (fun b hb => ?_) (fun b o _ _ hc e _ => k b o (fun z => hc (by simp [z])) e) (fun b o _ _ hc e _ => ⟨o.slots, k b o (fun z => hc (by simp [z])) e⟩) (fun _ _ _ _ n => n)
    (fun b o hc e => ⟨o, k b o (fun z => hc (by simp [z])) e⟩) (fun _ _ e => e) (fun _ _ _ e => e) (fun b ps e => ⟨#[], by rw [e]; simp⟩) (fun m hm => ?_) (fun b u e => ?_) I.bare
  · have e : b = it := by simpa using hb
    subst e
    exact ⟨h1, hL, h2, h3⟩
  · obtain ⟨o, es, ep, ho, r⟩ := hm
    exact ⟨o, es, ep, k _ o (Ne.symm hL) ho, r⟩
  · refine (I.hok b u e).stay (fun c v hc q => k c v ?_ q) (fun _ q => q) fun _ _ q => q
    rcases hc with z | z
    · rw [z]; exact nit b u e
    · exact nit c _ z
theorem Inv.tok (I : Inv X pins σ H s) (t : Nat) : Inv X pins σ H { s with toks := t } := I.un (h' := s.heap) (t' := t) Un.refl I.hok
theorem Inv.kept {t' : Nat} (I : Inv X pins σ H s) (k : ∀ b u, s.heap.get? b = some u → h'.get? b = some u) : Inv X pins σ H { s with heap := h', toks := t' } := I.un (Un.kept k) (I.hok.kept k)
theorem Inv.laid {a : Addr} {o : HO} {t' : Nat} (I : Inv X pins σ H s) (k : ∀ b u, s.heap.get? b = some u → h'.get? b = some u) (hp : s.heap.objs.size ≤ a) (new : ALd X.prog X.w (upd H a o) h' a o) :
    Inv X pins σ (upd H a o) { s with heap := h', toks := t' } := I.un (Un.laid k hp (I.hok.fresh hp)) (I.hok.laid k hp new)
theorem Inv.write {x e : Addr} {o : HO} {t' : Nat} (I : Inv X pins σ H s) (mu : Mut (H x)) (he : e = x ∨ H e = some (.own x)) (k : ∀ b u, b ≠ e → s.heap.get? b = some u → h'.get? b = some u) (heo : ∃ u, h'.get? e = some u)
    (new : ALd X.prog X.w (upd H x o) h' x o) : Inv X pins σ (upd H x o) { s with heap := h', toks := t' } := I.un (Un.write mu he k heo) (I.hok.write mu he k heo new)
theorem Inv.weak {σ' : List (Option V)} (I : Inv X pins σ H s) (hl : σ'.length = σ.length) (w : ∀ (i : Nat) v, σ'[i]? = some (some v) → σ[i]? = some (some v)) : Inv X pins σ' H s :=
  ⟨I.ok, I.os, I.bare, I.base, let ⟨m, hn, hl'⟩ := I.loc; ⟨m, hn, fun i x v e1 e2 e3 => hl' i x v e1 (w i v e2) e3⟩, I.cell, I.free, I.freeC, I.pin, I.hok, hl.trans I.len⟩
theorem Inv.pins_of {pins' : List (Addr × Obj)} (I : Inv X pins σ H s) (h : ∀ p ∈ pins', s.heap.get? p.1 = some p.2 ∧ H p.1 = none ∧ p.1 ≠ X.env.locals ∧ p.1 ∉ X.fs ∧ ∀ v, p.2.data ≠ .cell v) : Inv X pins' σ H s :=
  ⟨I.ok, I.os, I.bare, I.base, I.loc, I.cell, I.free, I.freeC, fun p hp => (List.mem_append.mp hp).elim (fun z => I.pin p (List.mem_append_left _ z)) (h p), I.hok, I.len⟩
theorem APz {N : List Str} (hN : N.Nodup) {i j : Nat} {x : Str} (a : N[i]? = some x) (b : N[j]? = some x) : i = j := by
  obtain ⟨h1, e1⟩ := List.getElem?_eq_some_iff.mp a
  obtain ⟨h2, e2⟩ := List.getElem?_eq_some_iff.mp b
  exact (List.getElem_inj hN).mp (e1.trans e2.symm)
theorem AR0 {M : Model} {A : Around} {E : Value → Shared → Prop} {i : Nat} {x : Str} {v : V} {u : Value} {Q : Unit → Shared → Prop} (I : Inv X pins σ H s) (hN : X.N.Nodup) (hi : X.N[i]? = some x) (hx : Loc X.env.scope x) (r : RelV v u)
    (h : ∀ s', Inv X pins (σ.set i (some v)) H s' → (∃ a, Heap.SameBut a s.heap s'.heap ∧ (a = X.env.locals ∨ X.env.cells.lookup x = some a)) → Q () s') (hf : X.fn x = true ∨ X.env.scope.names.lookup x = some .local := by first | exact .inl rfl | exact .inr rfl | assumption) : wpAny M A (storeName X.env x u) Q E s := by
  obtain ⟨m, hn, hl⟩ := id I.loc
  have hcls : (X.env.scope.kind == .class || (X.env.scope.kind == .module && X.env.locals != X.env.globals)) = false := by rw [I.ok.kind]; rfl
  have hiσ : i < σ.length := by rw [I.len]; exact (List.getElem?_eq_some_iff.mp hi).1
  have cne := I.cne
  have tracked : ∀ {a : Addr} {h' : Heap}, (∃ o, s.heap.get? a = some o ∧ H a = none) → Heap.SameBut a s.heap h' → HOk X.prog X.w H h' := fun {a h'} ha hs b ob e => by
    obtain ⟨_, _, hfree⟩ := ha
    refine (I.hok b ob e).stay (fun c w' hc q => (hs.2 c ?_).trans q) (fun _ q => q) fun _ _ q => q
    rintro rfl
    rcases hc with rfl | hc
    · rw [hfree] at e; cases e
    · rw [hfree] at hc; cases hc
  rcases hx with hk | hk
  · refine wpAny_storeName_local hk hn (fun h' hn' hs => ?_) hcls
    obtain ⟨oL, _, _, hoL, _⟩ := id hn
    refine h _ ⟨I.ok, I.os, I.bare, ⟨fun b o e n hb hx => ?_, fun b o e n hb hx => ?_, I.base.free, fun b o e hx => ?_, I.base.tups, I.base.frzs, I.base.tbls⟩, ⟨_, hn', fun j y v' e1 e2 e3 => ?_⟩, fun y c e => ?_, I.free, I.freeC, fun p hp => ?_, tracked ⟨oL, hoL, I.free⟩ hs, by simpa using I.len⟩ ⟨_, hs, .inl rfl⟩
    · exact (hs.2 b (Nat.ne_of_lt (Nat.lt_of_lt_of_le (Heap.lt_size e) I.ok.above))).trans (I.base.keep b o e n hb hx)
    · obtain ⟨sl, e1⟩ := I.base.slot b o e n hb hx
      exact ⟨sl, (hs.2 b (Nat.ne_of_lt (Nat.lt_of_lt_of_le (Heap.lt_size e) I.ok.above))).trans e1⟩
    · obtain ⟨o', e1⟩ := I.base.there b o e hx
      exact ⟨o', (hs.2 b (Nat.ne_of_lt (Nat.lt_of_lt_of_le (Heap.lt_size e) I.ok.above))).trans e1⟩
    · by_cases hj : j = i
      · subst hj
        rw [hi] at e1; cases e1
        rw [List.getElem?_set_self hiσ] at e2
        cases e2
        exact ⟨u, r, .inl ⟨hk, by simp⟩⟩
      · rw [List.getElem?_set_ne (Ne.symm hj)] at e2
        obtain ⟨u', r', q⟩ := hl j y v' e1 e2 e3
        refine ⟨u', r', ?_⟩
        rcases q with ⟨k, e⟩ | ⟨k, c, e, z⟩
        · refine .inl ⟨k, ?_⟩
          have : y ≠ x := fun e => hj (APz hN e1 (e ▸ hi))
          simp [this, e]
        · exact .inr ⟨k, c, e, z.sameBut hs (cne y c e)⟩
    · obtain ⟨w', z⟩ := I.cell y c e
      exact ⟨w', z.sameBut hs (cne y c e)⟩
    · obtain ⟨e, n, ne, nf, d⟩ := I.pin p hp
      exact ⟨(hs.2 p.1 ne).trans e, n, ne, nf, d⟩
  · have hfn : X.fn x = true := by
      rcases hf with z | z
      · exact z
      · rw [z] at hk; cases hk
    obtain ⟨c, hc⟩ := I.ok.has x (.inl hk)
    obtain ⟨w', z⟩ := I.cell x c hc
    refine wpAny_storeName_cell I.ok.kind hk hc z (fun h' hc' hs => ?_)
    obtain ⟨oc, hoc, hocd⟩ := id z
    refine h { s with heap := h' } ⟨I.ok, I.os, I.bare, ⟨fun b o e n hb hx => ?_, fun b o e n hb hx => ?_, I.base.free, fun b o e hx => ?_, I.base.tups, I.base.frzs, I.base.tbls⟩, ⟨m, hn.sameBut hs (Ne.symm (cne x c hc)), fun j y v' e1 e2 e3 => ?_⟩, fun y c' e => ?_, I.free, I.freeC, fun p hp => ?_, tracked ⟨oc, hoc, I.freeC x c hc⟩ hs, by simpa using I.len⟩ ⟨c, hs, .inr hc⟩
    · exact (hs.2 b (Nat.ne_of_lt (Nat.lt_of_lt_of_le (Heap.lt_size e) (I.ok.cab x c hfn hc)))).trans (I.base.keep b o e n hb hx)
    · obtain ⟨sl, e1⟩ := I.base.slot b o e n hb hx
      exact ⟨sl, (hs.2 b (Nat.ne_of_lt (Nat.lt_of_lt_of_le (Heap.lt_size e) (I.ok.cab x c hfn hc)))).trans e1⟩
    · obtain ⟨o', e1⟩ := I.base.there b o e hx
      exact ⟨o', (hs.2 b (Nat.ne_of_lt (Nat.lt_of_lt_of_le (Heap.lt_size e) (I.ok.cab x c hfn hc)))).trans e1⟩
    · by_cases hj : j = i
      · subst hj
        rw [hi] at e1; cases e1
        rw [List.getElem?_set_self hiσ] at e2
        cases e2
        exact ⟨u, r, .inr ⟨.inl hk, c, hc, hc'⟩⟩
      · rw [List.getElem?_set_ne (Ne.symm hj)] at e2
        obtain ⟨u', r', q⟩ := hl j y v' e1 e2 e3
        refine ⟨u', r', ?_⟩
        rcases q with q | ⟨k, c', e, z'⟩
        · exact .inl q
        · refine .inr ⟨k, c', e, z'.sameBut hs ?_⟩
          rintro rfl
          exact hj (APz hN e1 (I.ok.inj _ _ _ e hc ▸ hi))
    · by_cases hcc : c' = c
      · subst hcc; exact ⟨_, hc'⟩
      · obtain ⟨w2, z2⟩ := I.cell y c' e
        exact ⟨w2, z2.sameBut hs hcc⟩
    · obtain ⟨e, n, ne, nf, d⟩ := I.pin p hp
      refine ⟨(hs.2 p.1 ?_).trans e, n, ne, nf, d⟩
      intro q
      rw [q, hoc] at e
      have q' : oc = p.2 := Option.some.inj e
      exact d w' (by rw [← q']; exact hocd)
theorem AP4 {M : Model} {A : Around} {E : Value → Shared → Prop} {i : Nat} {x : Str} {v : V} {u : Value} {Q : Unit → Shared → Prop} (I : Inv X pins σ H s) (hN : X.N.Nodup) (hi : X.N[i]? = some x) (hx : Loc X.env.scope x) (r : RelV v u)
    (h : ∀ s', Inv X pins (σ.set i (some v)) H s' → Q () s') (hf : X.fn x = true ∨ X.env.scope.names.lookup x = some .local := by first | exact .inl rfl | exact .inr rfl | assumption) : wpAny M A (storeName X.env x u) Q E s :=
  AR0 I hN hi hx r (fun s' I' _ => h s' I') hf
theorem Inv.call' {s' : Shared} {ch : List Addr} (I : Inv X pins σ H s) (ho : s'.os = s.os) (u : Un (frs X.stack) ch H H' s.heap s'.heap) (hok : HOk X.prog X.w H' s'.heap) (hg : AllBare s'.gens)
    (hch : ∀ b ∈ ch, (b ∈ X.ex ∨ X.s_0.heap.objs.size ≤ b) ∧ b ≠ X.env.locals ∧ (∀ x c, X.env.cells.lookup x = some c → c ≠ b) ∧ ∀ p ∈ X.pn ++ pins, p.1 ≠ b) : Inv X pins σ H' s' := by
  obtain ⟨h', g', d', t', o'⟩ := s'
  have e : o' = s.os := ho
  subst e
  exact I.call (g' := g') (t' := t') (d' := d') u hok hg hch
end
noncomputable abbrev XK := Value → Option Addr → Hp → Prop
noncomputable abbrev St := List (Option V)
noncomputable abbrev VK := V → Hp → Prop
noncomputable abbrev TE := St → Hp → VK → Prop
noncomputable abbrev TT := St → Hp → (Bool → Hp → Prop) → Prop
noncomputable abbrev TA := St → Hp → (List V → Hp → Prop) → Prop
structure Ends where
  nx : St → Hp → Prop
  rt : VK
  bk : St → Hp → Prop := fun _ _ => False
  ct : St → Hp → Prop := fun _ _ => False
noncomputable abbrev TS := Ends → St → Hp → Prop
noncomputable def EP (X : Cx) (pins : List (Addr × Obj)) (σ : St) (Q : VK) (u : Value) (s' : Shared) : Prop := ∃ v H', Inv X pins σ H' s' ∧ RelV v u ∧ Q v H'
noncomputable def TP (X : Cx) (pins : List (Addr × Obj)) (σ : St) (Q : Bool → Hp → Prop) (b : Bool) (s' : Shared) : Prop := ∃ H', Inv X pins σ H' s' ∧ Q b H'
noncomputable def AP (X : Cx) (pins : List (Addr × Obj)) (σ : St) (Q : List V → Hp → Prop) (us : List Value) (s' : Shared) : Prop := ∃ vs H', Inv X pins σ H' s' ∧ Vals vs us ∧ Q vs H'
noncomputable def SP (X : Cx) (pins : List (Addr × Obj)) (D : Ends) (f : Flow) (s' : Shared) : Prop :=
  match f with
  | .next => ∃ σ' H', Inv X pins σ' H' s' ∧ D.nx σ' H'
  | .brk => ∃ σ' H', Inv X pins σ' H' s' ∧ D.bk σ' H'
  | .cont => ∃ σ' H', Inv X pins σ' H' s' ∧ D.ct σ' H'
  | .ret u => ∃ v σ' H', Inv X pins σ' H' s' ∧ RelV v u ∧ D.rt v H'
noncomputable def PE (X : Cx) (e : Expr) (t : TE) : Prop :=
  ∀ (pins : List (Addr × Obj)) (s : Shared) (σ : St) (H : Hp) (Q : VK), Inv X pins σ H s → t σ H Q → wpAny (model X.prog X.w) X.A (eval e X.env) (EP X pins σ Q) X.xe s
noncomputable def PT (X : Cx) (e : Expr) (t : TT) : Prop :=
  ∀ (pins : List (Addr × Obj)) (s : Shared) (σ : St) (H : Hp) (Q : Bool → Hp → Prop), Inv X pins σ H s → t σ H Q → wpAny (model X.prog X.w) X.A (isTrue e X.env (eval e X.env)) (TP X pins σ Q) X.xe s
noncomputable def PW (X : Cx) (e : Expr) (t : TT) : Prop :=
  ∀ (whole : Sem Value) (pins : List (Addr × Obj)) (s : Shared) (σ : St) (H : Hp) (Q : Bool → Hp → Prop), Inv X pins σ H s → t σ H Q → wpAny (model X.prog X.w) X.A (isTrue e X.env whole) (TP X pins σ Q) X.xe s
theorem PW.pt {X : Cx} {e : Expr} {t : TT} (h : PW X e t) : PT X e t := h _
noncomputable def PA (X : Cx) (es : List Expr) (t : TA) : Prop :=
  ∀ (pos : Pos) (pins : List (Addr × Obj)) (s : Shared) (σ : St) (H : Hp) (Q : List V → Hp → Prop), Inv X pins σ H s → t σ H Q → wpAny (model X.prog X.w) X.A (spliced (backTo pos (starEach es X.env))) (AP X pins σ Q) X.xe s
noncomputable def PS (X : Cx) (st : Stmt) (t : TS) : Prop :=
  ∀ (pins : List (Addr × Obj)) (s : Shared) (σ : St) (H : Hp) (D : Ends), Inv X pins σ H s → t D σ H → wpAny (model X.prog X.w) X.A (exec st X.env) (SP X pins D) X.xe s
noncomputable def PSs (X : Cx) (st : List Stmt) (t : TS) : Prop :=
  ∀ (pins : List (Addr × Obj)) (s : Shared) (σ : St) (H : Hp) (D : Ends), Inv X pins σ H s → t D σ H → wpAny (model X.prog X.w) X.A (execs st X.env) (SP X pins D) X.xe s
theorem thn {α : Type} {t : Sem α} {Q Q' : α → Shared → Prop} {M : Model} {A : Around} {E : Value → Shared → Prop} {s : Shared} (h : wpAny M A t Q E s) (hQ : ∀ a s, Q a s → Q' a s) : wpAny M A t Q' E s := wpAny_mono h hQ fun _ _ x => x
end L2
namespace L2
open PySem PySem.Spec PyProof.Rows
section
variable {X : Cx}
noncomputable def tVar (i : Nat) : TE := fun σ H Q => ∃ v, σ[i]? = some (some v) ∧ Q v H
noncomputable def tC (v : V) : TE := fun _ H Q => Q v H
theorem A8b {i : Nat} {x : Str} {pos : Pos} (hN : X.N[i]? = some x) (hv : Vis X.env.scope x) (hd : (x == ("__debug__" : Str)) = false := by decide) (hcd : (x == ("__classdict__" : Str)) = false := by decide) : PE X (.Name x pos) (tVar i) := by
  intro pins s σ H Q I h
  obtain ⟨v, e, h⟩ := h
  obtain ⟨m, hn, hl⟩ := I.loc
  obtain ⟨u, r, l⟩ := hl i x v hN e hv
  have fin : EP X pins σ Q u s := ⟨v, H, I, r, h⟩
  rcases l with ⟨hk, hm⟩ | ⟨hk, c, hc, hcell⟩
  · exact wpAny_Name (wpAny_loadName_local I.ok.kind hk hn hm fin) hd
  · rcases hk with hk | hk
    · exact wpAny_Name (wpAny_loadName_cell I.ok.kind hk hc hcell fin) hd
    · exact wpAny_Name (wpAny_loadName_free I.ok.kind hk hc hcell fin hcd) hd
theorem BBt {i j pos} : PE X (.Constant (.int i) j pos) (tC (.int i)) := fun _ _ _ H _ I h => wpAny_Constant_int ⟨.int i, H, I.tok _, ⟨_, rfl⟩, h⟩
theorem ACi {j pos} : PE X (.Constant .none j pos) (tC .non) := fun _ _ _ H _ I h => Constant_none ⟨.non, H, I, rfl, h⟩
theorem AD2 {x j pos} : PE X (.Constant (.str x) j pos) (tC (.str x)) := fun _ _ _ H _ I h => Calls.Constant_str ⟨.str x, H, I.tok _, ⟨_, rfl⟩, h⟩
noncomputable def Gl (X : Cx) (x : Str) : Prop := X.env.kindOf x = some .globalImplicit
theorem ATz {E : Value → Shared → Prop} {pins : List (Addr × Obj)} {s : Shared} {σ : St} {H : Hp} {x : Str} {u : Value} {pos : Pos} {Q : Value → Shared → Prop} (I : Inv X pins σ H s) (hg : Gl X x) (hm : X.mg x = some u) (h : Q u s)
    (hd : (x == ("__debug__" : Str)) = false := by decide) : wpAny (model X.prog X.w) X.A (eval (.Name x pos) X.env) Q E s :=
  Calls.Name_function_global I.ok.kind hg (Calls.loadGlobal_global (by rw [I.ok.glob]; exact I.mod.glob.keeps I.bk) hm h) hd
theorem AWe {E : Value → Shared → Prop} {pins : List (Addr × Obj)} {s : Shared} {σ : St} {H : Hp} {x : Str} {u : Value} {pos : Pos} {Q : Value → Shared → Prop} (I : Inv X pins σ H s) (hg : Gl X x) (hm : X.mg x = none) (hv : bootBuiltins x = some u) (h : Q u s)
    (hn : x ≠ "__name__" := by decide) (hd : (x == ("__debug__" : Str)) = false := by decide) : wpAny (model X.prog X.w) X.A (eval (.Name x pos) X.env) Q E s := by
  obtain ⟨mb, h1, h2⟩ := I.mod.blt
  exact Calls.Name_function_global I.ok.kind hg (Calls.loadGlobal_builtin (by rw [I.ok.glob]; exact I.mod.glob.keeps I.bk) hm (by rw [I.ok.blt]; exact h1.keeps I.bk) ((h2 x hn).trans hv) h) hd
theorem A1m {x : Str} {v : V} {u : Value} {pos : Pos} (hg : Gl X x) (hm : X.mg x = some u) (r : RelV v u) (hd : (x == ("__debug__" : Str)) = false := by decide) : PE X (.Name x pos) (tC v) :=
  fun _ _ _ H _ I h => ATz I hg hm ⟨v, H, I, r, h⟩ hd
variable {a b : Expr} {ta tb : TE} {pos : Pos}
noncomputable def PC (X : Cx) (op : CmpOp) (a b : Expr) (t : TE) : Prop :=
  ∀ (pins : List (Addr × Obj)) (s : Shared) (σ : St) (H : Hp) (Q : VK), Inv X pins σ H s → t σ H Q →
    wpAny (model X.prog X.w) X.A (eval a X.env) (fun v s₁ => wpAny (model X.prog X.w) X.A (eval b X.env) (fun u s₂ => wpAny (model X.prog X.w) X.A (compareOp op v u) (EP X pins σ Q) X.xe s₂) X.xe s₁) X.xe s
noncomputable def tIsN (ta : TE) : TE := fun σ H Q => ta σ H fun x H1 => Q (.bl (decide (x = .non))) H1
theorem RelV.none_iff {x : V} {v : Value} (r : RelV x v) : (v == Value.none) = decide (x = .non) := by
  cases x with
  | non => cases r; rfl
  | bl _ => cases r; rfl
  | int _ => obtain ⟨t, rfl⟩ := r; rfl
  | str _ => obtain ⟨t, rfl⟩ := r; rfl
  | byt _ => obtain ⟨t, rfl⟩ := r; rfl
  | flt _ => obtain ⟨t, rfl⟩ := r; rfl
  | ref _ => cases r; rfl
  | ty _ => cases r; rfl
theorem BCk {j pos'} (ha : PE X a ta) : PC X .Is a (.Constant .none j pos') (tIsN ta) := by
  intro pins s σ H Q I h
  refine thn (ha pins s σ H _ I h) fun v s1 ⟨x, H1, I1, r1, q1⟩ => ?_
  exact Constant_none (is_none_gen ⟨.bl _, H1, I1, by rw [r1.none_iff]; rfl, q1⟩)
noncomputable def tB (t : TE) : TT := fun σ H Q => t σ H fun x H1 => ∃ c, x = .bl c ∧ Q c H1
theorem A9y {op : CmpOp} {t : TE} (h : PC X op a b t) (h1 : behindInMarks op b = false := by first | exact nobehind _ (by decide) (by decide) | rfl) : PT X (.Compare a [op] [b] pos) (tB t) := by
  intro pins s σ H Q I hw
  refine wpAny_isTrue_Compare1 (thn (h pins s σ H _ I hw) fun v s1 h1 => thn h1 fun u s2 h2 => thn h2 fun c s3 ⟨x, H1, I1, r1, q1⟩ => ?_) h1
  obtain ⟨d, rfl, q⟩ := q1
  cases r1
  exact wpAny_truthy_bool ⟨H1, I1, q⟩
theorem AJ0 {e : Expr} {t : TE} (h : PE X e t) (he : ∀ whole, isTrue e X.env whole = (do let v ← whole; standAt e.pos; holding [v] (truthy v)) := by intro _; rfl) : PT X e (tB t) := by
  intro pins s σ H Q I hw
  refine isTrue_plain (thn (h pins s σ H _ I hw) fun v s1 ⟨x, H1, I1, r1, q1⟩ => ?_) (he _)
  obtain ⟨d, rfl, q⟩ := q1
  cases r1
  exact wpAny_truthy_bool ⟨H1, I1, q⟩
variable {tA tB' : TT} {rest : List Expr}
noncomputable def tAnd (t u : TT) : TT := fun σ H Q => t σ H fun c H1 => if c = true then u σ H1 Q else Q false H1
noncomputable def tOr (t u : TT) : TT := fun σ H Q => t σ H fun c H1 => if c = true then Q true H1 else u σ H1 Q
noncomputable def tNot (t : TT) : TT := fun σ H Q => t σ H fun c H1 => Q (!c) H1
theorem AKg (ha : PT X a tA) : PW X (.BoolOp .And [a] pos) tA := by
  intro wh pins s σ H Q I h
  refine isTrue_and (thn (ha pins s σ H Q I h) fun c s1 e => ?_)
  cases c with
  | true => exact isTrue_and_nil e
  | false => exact e
theorem AU0 (ha : PT X a tA) : PW X (.BoolOp .Or [a] pos) tA := by
  intro wh pins s σ H Q I h
  refine isTrue_or (thn (ha pins s σ H Q I h) fun c s1 e => ?_)
  cases c with
  | false => exact isTrue_or_nil e
  | true => exact e
theorem AOs (ha : PT X a tA) (hb : PW X (.BoolOp .And (b :: rest) pos) tB') : PW X (.BoolOp .And (a :: b :: rest) pos) (tAnd tA tB') := by
  intro wh pins s σ H Q I h
  refine isTrue_and (thn (ha pins s σ H _ I h) fun c s1 ⟨H1, I1, q1⟩ => ?_)
  cases c with
  | true => exact hb wh pins s1 σ H1 Q I1 q1
  | false => exact ⟨H1, I1, q1⟩
theorem A56 (ha : PT X a tA) (hb : PW X (.BoolOp .Or (b :: rest) pos) tB') : PW X (.BoolOp .Or (a :: b :: rest) pos) (tOr tA tB') := by
  intro wh pins s σ H Q I h
  refine isTrue_or (thn (ha pins s σ H _ I h) fun c s1 ⟨H1, I1, q1⟩ => ?_)
  cases c with
  | true => exact ⟨H1, I1, q1⟩
  | false => exact hb wh pins s1 σ H1 Q I1 q1
theorem A2p (ha : PT X a tA) : PT X (.UnaryOp .Not a pos) (tNot tA) := by
  intro pins s σ H Q I h
  exact isTrue_not (ha pins s σ H (fun c H1 => Q (!c) H1) I h)
noncomputable def BEv (ta tb : TE) : TE := fun σ H Q => ta σ H fun x H1 => ∃ c, x = .bl c ∧ if c = true then tb σ H1 Q else Q (.bl false) H1
noncomputable def tOrV (ta tb : TE) : TE := fun σ H Q => ta σ H fun x H1 => ∃ c, x = .bl c ∧ if c = true then Q (.bl true) H1 else tb σ H1 Q
theorem AVt {op} {t : TE} (h : PE X a t) : PE X (.BoolOp op [a] pos) t := fun pins s σ H Q I hw => BoolOp_one (h pins s σ H Q I hw)
theorem AYf (ha : PE X a ta) (hb : PE X (.BoolOp .And (b :: rest) pos) tb) : PE X (.BoolOp .And (a :: b :: rest) pos) (BEv ta tb) := by
  intro pins s σ H Q I h
  refine BoolOp_and (thn (ha pins s σ H _ I h) fun v s1 ⟨x, H1, I1, r1, q1⟩ => ?_)
  obtain ⟨c, rfl, q1⟩ := q1
  cases r1
  refine wpAny_truthy_bool ?_
  cases c with
  | true => exact hb pins s1 σ H1 Q I1 q1
  | false => exact ⟨.bl false, H1, I1, rfl, q1⟩
theorem BEj (ha : PE X a ta) (hb : PE X (.BoolOp .Or (b :: rest) pos) tb) : PE X (.BoolOp .Or (a :: b :: rest) pos) (tOrV ta tb) := by
  intro pins s σ H Q I h
  refine BoolOp_or (thn (ha pins s σ H _ I h) fun v s1 ⟨x, H1, I1, r1, q1⟩ => ?_)
  obtain ⟨c, rfl, q1⟩ := q1
  cases r1
  refine wpAny_truthy_bool ?_
  cases c with
  | false => exact hb pins s1 σ H1 Q I1 q1
  | true => exact ⟨.bl true, H1, I1, rfl, q1⟩
noncomputable def tIf (t : TT) (ta tb : TE) : TE := fun σ H Q => t σ H fun c H1 => if c = true then ta σ H1 Q else tb σ H1 Q
theorem AGo {c : Expr} (hc : PT X c tA) (ha : PE X a ta) (hb : PE X b tb) : PE X (.IfExp c a b pos) (tIf tA ta tb) := by
  intro pins s σ H Q I h
  refine wpAny_IfExp (thn (hc pins s σ H _ I h) fun d s1 ⟨H1, I1, q1⟩ => ?_)
  cases d with
  | true => exact ha pins s1 σ H1 Q I1 q1
  | false => exact hb pins s1 σ H1 Q I1 q1
end
end L2
namespace L2
open PySem PySem.Spec PyProof.Rows
noncomputable def SqL (K : Frag) (H : Hp) (a : Addr) (xs : List V) : Prop :=
  Rd H a (.lst xs) ∨
    ∃ (o : Obj) (its : Array Value) (n : Nat), K.lookup a = some o ∧ o.cls = .type "list" ∧ o.dict = none ∧ o.data = .seq its n ∧ its.size ≤ sizeLine ∧ Vals xs its.toList
noncomputable def SqT (K : Frag) (H : Hp) (a : Addr) (xs : List V) : Prop :=
  Rd H a (.tup xs) ∨
    ∃ (o : Obj) (its : Array Value) (n : Nat), K.lookup a = some o ∧ o.cls = .type "tuple" ∧ o.data = .seq its n ∧ its.size ≤ sizeLine ∧ Vals xs its.toList
noncomputable def absV : Value → Option V
  | .none => some .non
  | .bool b => some (.bl b)
  | .int i _ => some (.int i)
  | .str x _ => some (.str x)
  | .bytes b _ => some (.byt b)
  | .float b _ => some (.flt b)
  | .ref a => some (.ref a)
  | .type n => some (.ty n)
  | _ => none
theorem RelV.abs {x : V} {u : Value} (r : RelV x u) : absV u = some x := by
  cases x with
  | non => cases r; rfl
  | bl _ => cases r; rfl
  | int _ => obtain ⟨t, rfl⟩ := r; rfl
  | str _ => obtain ⟨t, rfl⟩ := r; rfl
  | byt _ => obtain ⟨t, rfl⟩ := r; rfl
  | flt _ => obtain ⟨t, rfl⟩ := r; rfl
  | ref _ => cases r; rfl
  | ty _ => cases r; rfl
theorem RelV.inj {x y : V} {u : Value} (r : RelV x u) (q : RelV y u) : x = y := Option.some.inj (r.abs.symm.trans q.abs)
theorem Vals.inj : ∀ {xs ys : List V} {us : List Value}, Vals xs us → Vals ys us → xs = ys
  | _, _, _, .nil, .nil => rfl
  | _, _, _, .cons r t, .cons r' t' => by rw [r.inj r', Vals.inj t t']
section
variable {X : Cx} {pins : List (Addr × Obj)} {σ : St} {H : Hp} {s : Shared} {a : Addr} {xs ys : List V}
theorem SqL.of {K : Frag} (h : H a = some (.lst xs)) : SqL K H a xs := .inl (.inl h)
theorem SqT.of {K : Frag} (h : H a = some (.tup xs)) : SqT K H a xs := .inl (.inl h)
theorem Inv.list (I : Inv X pins σ H s) (h : SqL X.K H a xs) : ∃ its : List Value, Vals xs its ∧ PlainL s.heap a its.toArray ∧ xs.length ≤ sizeLine := by
  rcases h with h | ⟨o, its, n, hk, hc, hd, hs, hz, r⟩
  · obtain ⟨z, its, n, r, e⟩ := h.ok I.hok
    exact ⟨its, r, ⟨_, n, e, rfl, rfl, rfl⟩, z⟩
  · refine ⟨its.toList, r, ⟨o, n, I.kIn a o hk, hc, hd, by simpa using hs⟩, ?_⟩
    have e := r.length
    simp only [Array.length_toList] at e
    omega
theorem Inv.tuple (I : Inv X pins σ H s) (h : SqT X.K H a xs) : ∃ its : List Value, Vals xs its ∧ IsTup s.heap a its.toArray ∧ xs.length ≤ sizeLine := by
  rcases h with h | ⟨o, its, n, hk, hc, hs, hz, r⟩
  · obtain ⟨z, its, r, p⟩ := h.ok I.hok
    exact ⟨its, r, p, z⟩
  · refine ⟨its.toList, r, ⟨o, I.kIn a o hk, hc, n, by simpa using hs⟩, ?_⟩
    have e := r.length
    simp only [Array.length_toList] at e
    omega
theorem Inv.list_inj (I : Inv X pins σ H s) (h : SqL X.K H a xs) (h' : SqL X.K H a ys) : xs = ys := by
  obtain ⟨its, r, ⟨o, n, e, _, _, d⟩, _⟩ := I.list h
  obtain ⟨its', r', ⟨o', n', e', _, _, d'⟩, _⟩ := I.list h'
  rw [e] at e'; cases e'
  rw [d] at d'
  injection d' with d1 _
  have : its = its' := by simpa using congrArg Array.toList d1
  subst this
  exact r.inj r'
theorem Inv.tuple_inj (I : Inv X pins σ H s) (h : SqT X.K H a xs) (h' : SqT X.K H a ys) : xs = ys := by
  obtain ⟨its, r, ⟨o, e, _, n, d⟩, _⟩ := I.tuple h
  obtain ⟨its', r', ⟨o', e', _, n', d'⟩, _⟩ := I.tuple h'
  rw [e] at e'; cases e'
  rw [d] at d'
  injection d' with d1 _
  have : its = its' := by simpa using congrArg Array.toList d1
  subst this
  exact r.inj r'
end
noncomputable abbrev Cx.wish (X : Cx) (E : Value → Shared → Prop) : Cx := { X with xe := E }
noncomputable abbrev Cx.nox (X : Cx) : Cx := X.wish fun _ _ => False
theorem Cx.Ok.wish {X : Cx} (ok : X.Ok) (E : Value → Shared → Prop) : (X.wish E).Ok :=
  ⟨ok.mod, ok.kind, ok.glob, ok.blt, ok.above, ok.inj, ok.has, ok.cab, ok.hd, ok.frames, ok.stk, ok.exf, ok.bs, ok.bsz, ok.noex, ok.exfs, ok.funs, ok.frf⟩
theorem Cx.Ok.unwish {X : Cx} {E : Value → Shared → Prop} (ok : (X.wish E).Ok) : X.Ok :=
  ⟨ok.mod, ok.kind, ok.glob, ok.blt, ok.above, ok.inj, ok.has, ok.cab, ok.hd, ok.frames, ok.stk, ok.exf, ok.bs, ok.bsz, ok.noex, ok.exfs, ok.funs, ok.frf⟩
section
variable {X : Cx} {pins : List (Addr × Obj)} {σ : St} {H : Hp} {s : Shared} {E : Value → Shared → Prop}
theorem Inv.wish (I : Inv X pins σ H s) (E : Value → Shared → Prop) : Inv (X.wish E) pins σ H s := ⟨I.ok.wish E, I.os, I.bare, I.base, I.loc, I.cell, I.free, I.freeC, I.pin, I.hok, I.len⟩
theorem Inv.unwish (I : Inv (X.wish E) pins σ H s) : Inv X pins σ H s := ⟨I.ok.unwish, I.os, I.bare, I.base, I.loc, I.cell, I.free, I.freeC, I.pin, I.hok, I.len⟩
theorem SP.unwish {D : Ends} {f : Flow} {s' : Shared} (h : SP (X.wish E) pins D f s') : SP X pins D f s' := by
  cases f with
  | next => obtain ⟨σ', H', I, q⟩ := h; exact ⟨σ', H', I.unwish, q⟩
  | brk => obtain ⟨σ', H', I, q⟩ := h; exact ⟨σ', H', I.unwish, q⟩
  | cont => obtain ⟨σ', H', I, q⟩ := h; exact ⟨σ', H', I.unwish, q⟩
  | ret u => obtain ⟨v, σ', H', I, r, q⟩ := h; exact ⟨v, σ', H', I.unwish, r, q⟩
theorem PSs.nox {st : List Stmt} {t : TS} (h : PSs X.nox st t) : PSs X st t := fun pins s σ H D I hw =>
  wpAny_mono (h pins s σ H D (I.wish _) hw) (fun _ _ q => q.unwish) fun _ _ z => False.elim z
end
section
variable {X : Cx} {st : Stmt} {rest : List Stmt} {t u : TS} {e : Expr} {te : TE} {pos : Pos}
noncomputable def A55 : TS := fun D σ H => D.nx σ H
noncomputable def tSeq (t u : TS) : TS := fun D σ H => t { D with nx := u D } σ H
theorem ABf : PSs X [] A55 := fun _ _ σ H _ I h => wpAny_execs_nil ⟨σ, H, I, h⟩
theorem AAf (h1 : PS X st t) (h2 : PSs X rest u) : PSs X (st :: rest) (tSeq t u) := by
  intro pins s σ H D I h
  refine wpAny_execs_cons (thn (h1 pins s σ H { D with nx := u D } I h) fun f s1 q => ?_)
  cases f with
  | next =>
    obtain ⟨σ', H', I', q⟩ := q
    exact h2 pins s1 σ' H' D I' q
  | ret v => exact q
  | brk => exact q
  | cont => exact q
theorem AAg (h1 : PS X st t) : PSs X [st] t := by
  intro pins s σ H D I h
  refine wpAny_execs_cons (thn (h1 pins s σ H D I h) fun f s1 q => ?_)
  cases f with
  | next => exact wpAny_execs_nil q
  | ret v => exact q
  | brk => exact q
  | cont => exact q
theorem A6g : PS X (.Pass pos) A55 := fun _ _ σ H _ I h => wpAny_Pass ⟨σ, H, I, h⟩
theorem Inv.quiet {pins : List (Addr × Obj)} {σ : St} {H : Hp} {s : Shared} (I : Inv X pins σ H s) : interactive X.env = false := by simp [interactive, I.ok.kind]
noncomputable def AOi (te : TE) : TS := fun D σ H => te σ H fun _ H1 => D.nx σ H1
theorem ACe (he : PE X e te) (hs : swapsWith e none pos.line X.env = pure false := by rfl) : PS X (.Expr e pos) (AOi te) := by
  intro pins s σ H D I h
  exact wpAny_Expr_any (thn (he pins s σ H _ I h) fun v s1 ⟨x, H1, I1, r1, q1⟩ => ⟨σ, H1, I1, q1⟩) I.quiet hs
noncomputable def tRet (te : TE) : TS := fun D σ H => te σ H D.rt
theorem AAw (he : PE X e te) : PS X (.Return (some e) pos) (tRet te) := by
  intro pins s σ H D I h
  exact wpAny_Return_some (thn (he pins s σ H _ I h) fun v s1 ⟨x, H1, I1, r1, q1⟩ => ⟨x, σ, H1, I1, r1, q1⟩)
noncomputable def BEr : TS := fun D _ H => D.rt .non H
theorem APd : PS X (.Return none pos) BEr := fun _ _ σ H _ I h => wpAny_Return_none ⟨.non, σ, H, I, rfl, h⟩
noncomputable def tIfS (c : TT) (t u : TS) : TS := fun D σ H => c σ H fun b H1 => if b = true then t D σ H1 else u D σ H1
theorem AEn {c : Expr} {a b : List Stmt} {tc : TT} (hc : PT X c tc) (ha : PSs X a t) (hb : PSs X b u) : PS X (.If c a b pos) (tIfS tc t u) := by
  intro pins s σ H D I h
  refine wpAny_If (thn (hc pins s σ H _ I h) fun d s1 ⟨H1, I1, q1⟩ => ?_)
  cases d with
  | true => exact ha pins s1 σ H1 D I1 q1
  | false => exact hb pins s1 σ H1 D I1 q1
end
noncomputable abbrev TG := V → St → Hp → (St → Hp → Prop) → Prop
noncomputable abbrev TGs := List V → St → Hp → (St → Hp → Prop) → Prop
noncomputable def PG (X : Cx) (target : Expr) (t : TG) : Prop :=
  ∀ (pins : List (Addr × Obj)) (s : Shared) (σ : St) (H : Hp) (v : V) (u : Value) (Q : St → Hp → Prop), Inv X pins σ H s → RelV v u → t v σ H Q →
    wpAny (model X.prog X.w) X.A (assign target X.env u) (fun _ s' => ∃ σ' H', Inv X pins σ' H' s' ∧ Q σ' H') X.xe s
noncomputable def PGs (X : Cx) (ts : List Expr) (t : TGs) : Prop :=
  ∀ (pins : List (Addr × Obj)) (s : Shared) (σ : St) (H : Hp) (vs : List V) (us : List Value) (Q : St → Hp → Prop), Inv X pins σ H s → Vals vs us → t vs σ H Q →
    wpAny (model X.prog X.w) X.A (assignInOrder ((assignEach ts X.env).map (·.2)) us) (fun _ s' => ∃ σ' H', Inv X pins σ' H' s' ∧ Q σ' H') X.xe s
noncomputable abbrev TSet := V → V → V → Hp → (Hp → Prop) → Prop
noncomputable def PSet (X : Cx) (t : TSet) : Prop :=
  ∀ (pins : List (Addr × Obj)) (s : Shared) (σ : St) (H : Hp) (o i v : V) (ov iv u : Value) (Q : Hp → Prop), Inv X pins σ H s → RelV o ov → RelV i iv → RelV v u → t o i v H Q →
    wpAny (model X.prog X.w) X.A (setItem ov iv u) (fun _ s' => ∃ H', Inv X pins σ H' s' ∧ Q H') X.xe s
noncomputable abbrev TIp := V → V → Hp → VK → Prop
noncomputable def PIp (X : Cx) (op : Operator) (t : TIp) : Prop :=
  ∀ (pins : List (Addr × Obj)) (s : Shared) (σ : St) (H : Hp) (x y : V) (v u : Value) (Q : VK), Inv X pins σ H s → RelV x v → RelV y u → t x y H Q →
    wpAny (model X.prog X.w) X.A (inplaceOp op v u) (EP X pins σ Q) X.xe s
section
variable {X : Cx} {pos : Pos}
noncomputable def A1t (i : Nat) : TG := fun v σ H Q => Q (σ.set i (some v)) H
theorem AKf {i : Nat} {x : Str} (hN : X.N.Nodup) (hi : X.N[i]? = some x) (hx : Loc X.env.scope x) (hf : X.fn x = true ∨ X.env.scope.names.lookup x = some .local := by first | exact .inl rfl | exact .inr rfl | assumption) : PG X (.Name x pos) (A1t i) := by
  intro pins s σ H v u Q I r h
  exact wpAny_assign_Name (AP4 I hN hi hx r (fun s' I' => ⟨_, H, I', h⟩) hf)
noncomputable def gNil : TGs := fun vs σ H Q => vs = [] ∧ Q σ H
noncomputable def gCons (t : TG) (u : TGs) : TGs := fun vs σ H Q => ∃ v r, vs = v :: r ∧ t v σ H fun σ' H' => u r σ' H' Q
theorem A79 : PGs X [] gNil := by
  intro pins s σ H vs us Q I r h
  obtain ⟨e, h⟩ := h
  subst e
  cases r
  exact assignInOrder_nil ⟨σ, H, I, h⟩
theorem AUd {e : Expr} {es : List Expr} {t : TG} {u : TGs} (h1 : PG X e t) (h2 : PGs X es u)
    (hs : (assignEach (e :: es) X.env).map (·.2) = assign e X.env :: (assignEach es X.env).map (·.2) := by rfl) : PGs X (e :: es) (gCons t u) := by
  intro pins s σ H vs us Q I r h
  obtain ⟨v, vr, e1, h⟩ := h
  subst e1
  cases r with
  | cons r rr =>
    rw [hs]
    refine assignInOrder_cons (thn (h1 pins s σ H _ _ _ I r h) fun _ s1 ⟨σ1, H1, I1, q1⟩ => ?_)
    exact h2 pins s1 σ1 H1 _ _ Q I1 rr q1
noncomputable def gTup (K : Frag) (n : Nat) (t : TGs) : TG := fun v σ H Q => ∃ a xs, v = .ref a ∧ SqT K H a xs ∧ xs.length = n ∧ t xs σ H Q
theorem BAo {es : List Expr} {k : Nat} {t : TGs} {n : Nat} (hc : X.calm = true) (h : PGs X es t)
    (hn : (assignEach es X.env).length = n := by rfl) (hst : (assignEach es X.env).findIdx? (·.1) = none := by rfl) : PG X (.Tuple es k pos) (gTup X.K n t) := by
  intro pins s σ H v u Q I r hw
  obtain ⟨a, xs, e1, hq, hl, hw⟩ := hw
  subst e1
  cases r
  obtain ⟨its, rv, ht, hz⟩ := I.tuple hq
  refine assign_Tuple_tuple (I.ok.hd hc) ht (by simp [hn, ← hl, rv.length]) hst fun h' hx => ?_
  have I1 : Inv X pins σ H { s with heap := h' } := I.kept (t' := s.toks) fun b o e => hx b o (Nat.ne_of_lt (Heap.lt_size e)) e
  exact h pins _ σ H xs _ Q I1 (by simpa using rv) hw
noncomputable def gSub (to ti : TE) (t : TSet) : TG := fun v σ H Q => to σ H fun o H1 => ti σ H1 fun i H2 => t o i v H2 fun H3 => Q σ H3
theorem ACk {o i : Expr} {to ti : TE} {t : TSet} (ho : PE X o to) (hi : PE X i ti) (hs : PSet X t)
    (ha : ∀ v, assign (.Subscript o i pos) X.env v = (do
      let ov ← holding [v] (eval o X.env)
      let iv ← holding [v, ov] (eval i X.env)
      standAt pos
      holding [v, ov, iv] (setItem ov iv v)
      release [v, ov, iv] []) := by intro _; rfl) : PG X (.Subscript o i pos) (gSub to ti t) := by
  intro pins s σ H v u Q I r h
  rw [ha]
  refine wpAny_bind (wpAny_holding (thn (ho pins s σ H _ I h) fun ov s1 ⟨x, H1, I1, r1, q1⟩ => ?_))
  refine wpAny_bind (wpAny_holding (thn (hi pins s1 σ H1 _ I1 q1) fun iv s2 ⟨y, H2, I2, r2, q2⟩ => ?_))
  refine wpAny_bind (wpAny_standAt (wpAny_bind (wpAny_holding (thn (hs pins s2 σ H2 x y v ov iv u _ I2 r1 r2 r q2) fun _ s3 ⟨H3, I3, q3⟩ => ?_))))
  exact wpAny_release ⟨σ, H3, I3, q3⟩
noncomputable def tAsg (te : TE) (g : TG) : TS := fun D σ H => te σ H fun x H1 => g x σ H1 D.nx
theorem ACn {tg e : Expr} {te : TE} {g : TG} (he : PE X e te) (hg : PG X tg g) (hs : swapsWithSole [tg] e pos.line X.env = pure false := by rfl) (hw : swappedStores [tg] e X.env = pure none := by rfl)
    (h1 : (assignEach [tg] X.env).map (·.2) = [assign tg X.env] := by rfl) : PS X (.Assign [tg] e pos) (tAsg te g) := by
  intro pins s σ H D I h
  refine wpAny_Assign_stores (thn (he pins s σ H _ I h) fun v s1 ⟨x, H1, I1, r1, q1⟩ => ?_) hs hw
  rw [h1]
  exact thn (hg pins s1 σ H1 x v _ I1 r1 q1) fun _ s2 q => q
theorem ABk {i : Nat} {x : Str} {e : Expr} {te : TE} {pos' : Pos} (hN : X.N.Nodup) (hi : X.N[i]? = some x) (hx : Loc X.env.scope x) (he : PE X e te) (hs : swapsWith e (some (.Name x pos')) pos.line X.env = pure false := by rfl) (hf : X.fn x = true ∨ X.env.scope.names.lookup x = some .local := by first | exact .inl rfl | exact .inr rfl | assumption) :
    PS X (.Assign [.Name x pos'] e pos) (tAsg te (A1t i)) := by
  intro pins s σ H D I h
  refine wpAny_Assign_Name (thn (he pins s σ H _ I h) fun v s1 ⟨y, H1, I1, r1, q1⟩ => ?_) hs
  exact AP4 I1 hN hi hx r1 (fun s2 I2 => ⟨_, H1, I2, q1⟩) hf
noncomputable def tAug (i : Nat) (te : TE) (ti : TIp) : TS := fun D σ H => ∃ x, σ[i]? = some (some x) ∧ te σ H fun y H1 => ti x y H1 fun z H2 => D.nx (σ.set i (some z)) H2
theorem BDp {i : Nat} {x : Str} {e : Expr} {te : TE} {op : Operator} {ti : TIp} {pos' : Pos} (hN : X.N.Nodup) (hi : X.N[i]? = some x) (hx : Loc X.env.scope x) (he : PE X e te) (ho : PIp X op ti) (hf : X.fn x = true ∨ X.env.scope.names.lookup x = some .local := by first | exact .inl rfl | exact .inr rfl | assumption) :
    PS X (.AugAssign (.Name x pos') op e pos) (tAug i te ti) := by
  intro pins s σ H D I h
  obtain ⟨v, e1, h⟩ := h
  obtain ⟨m, hn, hl⟩ := I.loc
  have vis : Vis X.env.scope x := by rcases hx with k | k; exact .inl k; exact .inr (.inl k)
  obtain ⟨u, r, l⟩ := hl i x v hi e1 vis
  refine wpAny_AugAssign_Name ?_
  have go : wpAny (model X.prog X.w) X.A (eval e X.env) (fun w s₂ => wpAny (model X.prog X.w) X.A (inplaceOp op u w) (fun r s₃ => wpAny (model X.prog X.w) X.A (storeName X.env x r) (fun _ => SP X pins D .next) X.xe s₃) X.xe s₂) X.xe s := by
    refine thn (he pins s σ H _ I h) fun w s1 ⟨y, H1, I1, r1, q1⟩ => ?_
    refine thn (ho pins s1 σ H1 v y u w _ I1 r r1 q1) fun z s2 ⟨zv, H2, I2, r2, q2⟩ => ?_
    exact AP4 I2 hN hi hx r2 (fun s3 I3 => ⟨_, H2, I3, q2⟩) hf
  rcases l with ⟨hk, hm⟩ | ⟨hk, c, hc, hcell⟩
  · exact wpAny_loadName_local I.ok.kind hk hn hm go
  · rcases hk with hk | hk
    · exact wpAny_loadName_cell I.ok.kind hk hc hcell go
    · rcases hx with k | k
      · have : X.env.scope.names.lookup x = some .free := hk
        rw [k] at this; cases this
      · have : X.env.scope.names.lookup x = some .free := hk
        rw [k] at this; cases this
noncomputable def ipI (f : Int → Int → Int) : TIp := fun x y H Q => ∃ i j, x = .int i ∧ y = .int j ∧ Q (.int (f i j)) H
theorem BAt : PIp X .Add (ipI fun i j => i + j) := by
  intro pins s σ H x y v u Q I r1 r2 h
  obtain ⟨i, j, e1, e2, q⟩ := h
  subst e1; subst e2
  obtain ⟨t, rfl⟩ := r1
  obtain ⟨t', rfl⟩ := r2
  exact iadd_int ⟨.int _, H, I.tok _, ⟨_, rfl⟩, q⟩
end
section
variable {X : Cx} {pos : Pos}
noncomputable def A6p (c : TT) (tb : TS) : TS := fun D σ H => ∃ W : Nat → St → Hp → Prop, (∃ m, W m σ H) ∧ ∀ m σ H, W m σ H →
  c σ H fun b H1 => if b = true then ∃ N : St → Hp → Prop, (∀ σ' H', N σ' H' → ∃ m', m' < m ∧ W m' σ' H') ∧ tb { D with nx := N, ct := N, bk := D.nx } σ H1 else D.nx σ H1
theorem A4h {c : Expr} {body : List Stmt} {tc : TT} {tb : TS} (hp : PassesOwn (model X.prog X.w) X.A X.env X.xe) (hc : PT X c tc) (hb : PSs X body tb) : PS X (.While c body [] pos) (A6p tc tb) := by
  intro pins s σ H D I h
  obtain ⟨W, ⟨m0, w0⟩, turn⟩ := h
  refine wpAny_While (codeAny_whileLoop (fun n s' => ∃ σ' H', Inv X pins σ' H' s' ∧ W n σ' H') ?_ m0 ⟨σ, H, I, w0⟩)
  rintro n s1 ⟨σ1, H1, I1, w1⟩
  refine wpAny_passesOwn hp (thn (hc pins s1 σ1 H1 _ I1 (turn n σ1 H1 w1)) fun b s2 ⟨H2, I2, q2⟩ => ?_)
  cases b with
  | true =>
    obtain ⟨N, hN, q2⟩ := q2
    rw [if_pos rfl]
    refine wpAny_passesOwn hp (thn (hb pins s2 σ1 H2 _ I2 q2) fun f s3 q3 => ?_)
    cases f with
    | next =>
      obtain ⟨σ3, H3, I3, n3⟩ := q3
      obtain ⟨m', hm, w3⟩ := hN σ3 H3 n3
      exact ⟨m', hm, σ3, H3, I3, w3⟩
    | cont =>
      obtain ⟨σ3, H3, I3, n3⟩ := q3
      obtain ⟨m', hm, w3⟩ := hN σ3 H3 n3
      exact ⟨m', hm, σ3, H3, I3, w3⟩
    | brk => exact q3
    | ret v => exact q3
  | false =>
    rw [if_neg Bool.false_ne_true]
    exact wpAny_execs_nil ⟨σ1, H2, I2, q2⟩
end
structure It where
  go : Nat → Hp → Prop
  yld : Nat → Hp → V → Hp → Prop
  stop : Nat → Hp → Prop
noncomputable def FpOk (X : Cx) (pins : List (Addr × Obj)) (H : Hp) (b : Addr) : Prop :=
  H b = none ∧ b ≠ X.env.locals ∧ b ∉ X.fs ∧ (b ∈ X.ex ∨ X.s_0.heap.objs.size ≤ b) ∧ (∀ x c, X.env.cells.lookup x = some c → c ≠ b) ∧ ∀ p ∈ X.pn ++ pins, p.1 ≠ b
theorem Inv.fpOk {X : Cx} {pins : List (Addr × Obj)} {σ : St} {H H' : Hp} {s : Shared} {b : Addr} (I : Inv X pins σ H s) (hb : s.heap.objs.size ≤ b) (hn : H' b = none) : FpOk X pins H' b := by
  refine ⟨hn, Nat.ne_of_gt (Nat.lt_of_lt_of_le I.lt hb), I.nofs hb, .inr (Nat.le_trans I.sz hb), fun x c e z => ?_, fun p hp z => ?_⟩
  · obtain ⟨v, q⟩ := I.cell x c e
    exact absurd (Nat.lt_of_lt_of_le q.lt (by rw [z]; exact hb)) (Nat.lt_irrefl _)
  · exact absurd (Nat.lt_of_lt_of_le (Heap.lt_size (I.pin p hp).1) (by rw [z]; exact hb)) (Nat.lt_irrefl _)
structure Turn (P : Program) (w : World) (K : Frag) (tg : Expr) (J : It) (fp : List Addr) (it : Addr) (tn : Nat → Heap → Prop) : Prop where
  mem : it ∈ fp
  obj : ∀ i h, tn i h → ∀ b ∈ fp, ∃ o, h.get? b = some o ∧ ∀ v, o.data ≠ .cell v
  keep : ∀ i h h', tn i h → (∀ b ∈ fp, ∀ o, h.get? b = some o → h'.get? b = some o) → tn i h'
  item : ∀ (X : Cx), X.prog = P → X.w = w → X.K = K → X.calm = true → ∀ (i : Nat) (pins : List (Addr × Obj)) (s : Shared) (σ : St) (H : Hp) (E : Value → Shared → Prop), Inv X pins σ H s → (∀ b ∈ fp, FpOk X pins H b) → tn i s.heap → J.go i H →
    wpAny (model P w) X.A (pyNext (.ref it)) (fun r s1 => ∃ u, r = some u ∧
      wpAny (model P w) X.A (letOwnedTupleGo tg (.ref it) u) (fun _ s2 => ∃ x H', Inv X pins σ H' s2 ∧ RelV x u ∧ J.yld i H x H' ∧ tn (i + 1) s2.heap ∧ ∀ b ∈ fp, H' b = none) E s1) E s
  done : ∀ (X : Cx), X.prog = P → X.w = w → X.K = K → X.calm = true → ∀ (i : Nat) (pins : List (Addr × Obj)) (s : Shared) (σ : St) (H : Hp) (E : Value → Shared → Prop), Inv X pins σ H s → (∀ b ∈ fp, FpOk X pins H b) → tn i s.heap → J.stop i H →
    wpAny (model P w) X.A (pyNext (.ref it)) (fun r s1 => r = none ∧ Inv X pins σ H s1) E s
  self : ∀ (A : Around) (i : Nat) (s : Shared) (Q : Value → Shared → Prop) (E : Value → Shared → Prop), tn i s.heap → Q (.ref it) s → wpAny (model P w) A (pyIter (.ref it)) Q E s
noncomputable abbrev TI := St → Hp → (It → Hp → Prop) → Prop
noncomputable def PIE (X : Cx) (pins : List (Addr × Obj)) (σ : St) (tg : Expr) (R : It → Hp → Prop) (itv : Value) (s2 : Shared) : Prop :=
  ∃ (it : Addr) (fp : List Addr) (tn : Nat → Heap → Prop) (J : It) (H' : Hp), itv = .ref it ∧ Inv X pins σ H' s2 ∧ Turn X.prog X.w X.K tg J fp it tn ∧ tn 0 s2.heap ∧ (∀ b ∈ fp, FpOk X pins H' b) ∧ R J H'
noncomputable def PI (X : Cx) (tg iter : Expr) (wi : TI) : Prop :=
  ∀ (pins : List (Addr × Obj)) (s : Shared) (σ : St) (H : Hp) (R : It → Hp → Prop), Inv X pins σ H s → wi σ H R →
    wpAny (model X.prog X.w) X.A (eval iter X.env) (fun v s1 => wpAny (model X.prog X.w) X.A (pyIter v) (PIE X pins σ tg R) X.xe s1) X.xe s
theorem BBs {M : Model} {A : Around} {E : Value → Shared → Prop} {s : Shared} {tg : Expr} {it : Addr} {u : Value} {o : Obj} {n : String} {vs : Array Value} {Q : Unit → Shared → Prop} (ho : s.heap.get? it = some o) (hc : o.cls = .type n) (hd : o.data = .fields vs)
    (hn : ["enumerate", "zip", "dict_itemiterator", "dict_reverseitemiterator", "odict_iterator", "itertools.zip_longest", "itertools.pairwise"].contains n = false) (hQ : Q () s) : wpAny M A (letOwnedTupleGo tg (.ref it) u) Q E s := by
  unfold letOwnedTupleGo
  cases tg <;> first
    | exact wpAny_pure hQ
    | (cases u <;> first
        | exact wpAny_pure hQ
        | (refine wpAny_bind (wpAny_load ho ?_)
           rw [hc, hd]
           show wpAny M A (if (["enumerate", "zip", "dict_itemiterator", "dict_reverseitemiterator", "odict_iterator", "itertools.zip_longest", "itertools.pairwise"].contains n && vs[0]? == some (rawInt _)) = true then _ else _) Q E s
           rw [if_neg (by intro h; rw [hn, Bool.false_and] at h; cases h)]
           exact wpAny_pure hQ))
noncomputable def Itl (K : Frag) (a : Addr) : It :=
  ⟨fun i H => ∃ xs x, SqL K H a xs ∧ xs[i]? = some x, fun i H x H' => H' = H ∧ ∀ xs, SqL K H a xs → xs[i]? = some x, fun i H => ∃ xs, SqL K H a xs ∧ xs.length ≤ i⟩
noncomputable def Itt (K : Frag) (a : Addr) : It :=
  ⟨fun i H => ∃ xs x, SqT K H a xs ∧ xs[i]? = some x, fun i H x H' => H' = H ∧ ∀ xs, SqT K H a xs → xs[i]? = some x, fun i H => ∃ xs, SqT K H a xs ∧ xs.length ≤ i⟩
noncomputable def Itr (lo : Int) (n : Nat) : It := ⟨fun i _ => i < n, fun i H x H' => H' = H ∧ x = .int (lo + i), fun i _ => n ≤ i⟩
theorem AXx {P : Program} {w : World} {K : Frag} {tg : Expr} (a it : Addr) : Turn P w K tg (Itl K a) [it] it (fun i h => h.IsListIter it a i) where
  mem := by simp
  obj := fun i h st b hb => by
    have e : b = it := by simpa using hb
    subst e
    obtain ⟨o, e, c, d⟩ := st
    exact ⟨o, e, fun v z => by rw [d] at z; cases z⟩
  keep := fun i h h' st k => st.at fun o e => k it (by simp) o e
  item := by
    intro X hP hw hK hc i pins s σ H E I hf st hg
    subst hP hw hK
    obtain ⟨xs, x, hq, hx⟩ := hg
    obtain ⟨its, rv, p, hz⟩ := I.list hq
    obtain ⟨u, hu, ru⟩ := rv.get hx
    obtain ⟨f0, f1, f2, f3, f4, f5⟩ := hf it (by simp)
    refine wpAny_pyNext_list_item st p.isList (x := u) (by simpa using hu) fun h' st' sb => ?_
    have I1 : Inv X pins σ H { s with heap := h' } := I.turned (t' := s.toks) (fun b o hb e => (sb.2 b hb).trans e) f0 f1 f3 f4 f5
    obtain ⟨o, e, c, d⟩ := id st'
    exact ⟨u, rfl, BBs (s := { s with heap := h' }) e c d (by decide) ⟨x, H, I1, ru, ⟨rfl, fun ys hy => by rw [I.list_inj hy hq]; exact hx⟩, st', fun b hb => (hf b hb).1⟩⟩
  done := by
    intro X hP hw hK hc i pins s σ H E I hf st hg
    subst hP hw hK
    obtain ⟨xs, hq, hx⟩ := hg
    obtain ⟨its, rv, p, hz⟩ := I.list hq
    obtain ⟨f0, f1, f2, f3, f4, f5⟩ := hf it (by simp)
    have hl := rv.length
    exact wpAny_pyNext_list_end (I.ok.hd hc) st p.isList (by simp; omega) fun h' eb => ⟨rfl, I.turned (t' := s.toks) (fun b o hb e => eb b o hb e) f0 f1 f3 f4 f5⟩
  self := fun _ _ _ _ _ st h => wpAny_pyIter_listiter st h
theorem AT5 {P : Program} {w : World} {K : Frag} {tg : Expr} (a it : Addr) : Turn P w K tg (Itt K a) [it] it (fun i h => h.IsTupleIter it a i) where
  mem := by simp
  obj := fun i h st b hb => by
    have e : b = it := by simpa using hb
    subst e
    obtain ⟨o, e, c, d⟩ := st
    exact ⟨o, e, fun v z => by rw [d] at z; cases z⟩
  keep := fun i h h' st k => st.at fun o e => k it (by simp) o e
  item := by
    intro X hP hw hK hc i pins s σ H E I hf st hg
    subst hP hw hK
    obtain ⟨xs, x, hq, hx⟩ := hg
    obtain ⟨its, rv, p, hz⟩ := I.tuple hq
    obtain ⟨u, hu, ru⟩ := rv.get hx
    obtain ⟨f0, f1, f2, f3, f4, f5⟩ := hf it (by simp)
    refine wpAny_pyNext_tuple_item st (show s.heap.IsTuple a its.toArray from p) (x := u) (by simpa using hu) fun h' st' sb => ?_
    have I1 : Inv X pins σ H { s with heap := h' } := I.turned (t' := s.toks) (fun b o hb e => (sb.2 b hb).trans e) f0 f1 f3 f4 f5
    obtain ⟨o, e, c, d⟩ := id st'
    exact ⟨u, rfl, BBs (s := { s with heap := h' }) e c d (by decide) ⟨x, H, I1, ru, ⟨rfl, fun ys hy => by rw [I.tuple_inj hy hq]; exact hx⟩, st', fun b hb => (hf b hb).1⟩⟩
  done := by
    intro X hP hw hK hc i pins s σ H E I hf st hg
    subst hP hw hK
    obtain ⟨xs, hq, hx⟩ := hg
    obtain ⟨its, rv, p, hz⟩ := I.tuple hq
    obtain ⟨f0, f1, f2, f3, f4, f5⟩ := hf it (by simp)
    have hl := rv.length
    exact wpAny_pyNext_tuple_end (I.ok.hd hc) st (show s.heap.IsTuple a its.toArray from p) (by simp; omega) fun h' eb => ⟨rfl, I.turned (t' := s.toks) (fun b o hb e => eb b o hb e) f0 f1 f3 f4 f5⟩
  self := fun _ _ _ _ _ st h => wpAny_pyIter_tupleiter st h
theorem AVn {P : Program} {w : World} {K : Frag} {tg : Expr} (it : Addr) (lo : Int) (n : Nat) : Turn P w K tg (Itr lo n) [it] it (fun i h => IsRangeIter h it (lo + (i : Nat) * 1) ((n : Int) - (i : Nat)) 1) where
  mem := by simp
  obj := fun i h st b hb => by
    have e : b = it := by simpa using hb
    subst e
    exact ⟨_, st, fun v z => by
      have z' : Data.fields _ = Data.cell v := z
      cases z'⟩
  keep := fun i h h' st k => k it (by simp) _ st
  item := by
    intro X hP hw hK hc i pins s σ H E I hf st hg
    subst hP hw hK
    obtain ⟨f0, f1, f2, f3, f4, f5⟩ := hf it (by simp)
    have W := Walks.range (prog := X.prog) (w := X.w) (I.ok.hd hc) it lo 1 n
    refine W.item i s _ _ hg st fun v h' tk hv st' kk => ?_
    obtain ⟨t, rfl⟩ := hv
    have I1 : Inv X pins σ H { s with heap := h', toks := tk } := I.turned (fun b o hb e => kk b o (by simpa using hb) e) f0 f1 f3 f4 f5
    refine ⟨_, rfl, BBs (s := { s with heap := h', toks := tk }) (n := "range_iterator") st' rfl rfl (by decide) ⟨.int (lo + i), H, I1, ⟨t, ?_⟩, ⟨rfl, rfl⟩, st', fun b hb => (hf b hb).1⟩⟩
    rw [Int.mul_one]
  done := by
    intro X hP hw hK hc i pins s σ H E I hf st hg
    subst hP hw hK
    obtain ⟨f0, f1, f2, f3, f4, f5⟩ := hf it (by simp)
    exact wpAny_pyNext_range_end (I.ok.hd hc) st (by have : n ≤ i := hg; omega) fun h' eb => ⟨rfl, I.turned (t' := s.toks) (fun b o hb e => eb b o hb e) f0 f1 f3 f4 f5⟩
  self := fun _ _ _ _ _ st h => wpAny_pyIter_rangeiter st h
end L2
namespace L2
open PySem PySem.Spec PyProof.Rows
section
variable {X : Cx} {tg : Expr}
noncomputable def iList (K : Frag) (tl : TE) : TI := fun σ H R => tl σ H fun x H1 => ∃ a, x = .ref a ∧ (∃ xs, SqL K H1 a xs) ∧ R (Itl K a) H1
noncomputable def iTup (K : Frag) (tl : TE) : TI := fun σ H R => tl σ H fun x H1 => ∃ a, x = .ref a ∧ (∃ xs, SqT K H1 a xs) ∧ R (Itt K a) H1
theorem A9t {l : Expr} {tl : TE} (hl : PE X l tl) : PI X tg l (iList X.K tl) := by
  intro pins s σ H R I h
  refine thn (hl pins s σ H _ I h) fun v s1 ⟨x, H1, I1, r1, q1⟩ => ?_
  obtain ⟨a, e, ⟨xs, hq⟩, q⟩ := q1
  subst e
  cases r1
  obtain ⟨its, rv, p, hz⟩ := I1.list hq
  refine wpAny_pyIter_list p.isList ?_
  refine ⟨s1.heap.objs.size, [s1.heap.objs.size], _, _, H1, rfl, I1.kept (t' := s1.toks) fun b o e => Heap.get?_push_of_some _ e, AXx a _, ⟨_, Heap.get?_push_size _ rfl, rfl, rfl⟩, fun b hb => ?_, q⟩
  have e : b = s1.heap.objs.size := by simpa using hb
  subst e
  exact I1.fpOk (Nat.le_refl _) (I1.hok.fresh (Nat.le_refl _))
theorem A6c {l : Expr} {tl : TE} (hl : PE X l tl) : PI X tg l (iTup X.K tl) := by
  intro pins s σ H R I h
  refine thn (hl pins s σ H _ I h) fun v s1 ⟨x, H1, I1, r1, q1⟩ => ?_
  obtain ⟨a, e, ⟨xs, hq⟩, q⟩ := q1
  subst e
  cases r1
  obtain ⟨its, rv, p, hz⟩ := I1.tuple hq
  refine wpAny_pyIter_tuple (show s1.heap.IsTuple a its.toArray from p) ?_
  refine ⟨s1.heap.objs.size, [s1.heap.objs.size], _, _, H1, rfl, I1.kept (t' := s1.toks) fun b o e => Heap.get?_push_of_some _ e, AT5 a _, ⟨_, Heap.get?_push_size _ rfl, rfl, rfl⟩, fun b hb => ?_, q⟩
  have e : b = s1.heap.objs.size := by simpa using hb
  subst e
  exact I1.fpOk (Nat.le_refl _) (I1.hok.fresh (Nat.le_refl _))
theorem ATu {pins : List (Addr × Obj)} {σ : St} {H : Hp} {s : Shared} {R : It → Hp → Prop} {E : Value → Shared → Prop} {lo hi : Int} {t u v : Tok} {tk : Nat} (I : Inv X pins σ H s) (h1 : -(2 ^ 62) ≤ lo) (h2 : lo < 2 ^ 62) (h3 : -(2 ^ 62) ≤ hi) (h4 : hi < 2 ^ 62)
    (q : R (Itr lo (hi - lo).toNat) H) : wpAny (model X.prog X.w) X.A (pyIter (.ref s.heap.objs.size)) (PIE X pins σ tg R) E { s with heap := s.heap.push { cls := .type "range", data := .fields #[.int lo t, .int hi u, .int 1 v] }, toks := tk } := by
  refine wpAny_pyIter_range (IsRange.new ..) (small_one h1 h2 h3 h4) ?_
  have I1 : Inv X pins σ H { s with heap := s.heap.push { cls := .type "range", data := .fields #[.int lo t, .int hi u, .int 1 v] }, toks := tk } := I.kept fun b o e => Heap.get?_push_of_some _ e
  refine ⟨(s.heap.push { cls := .type "range", data := .fields #[.int lo t, .int hi u, .int 1 v] }).objs.size, [(s.heap.push { cls := .type "range", data := .fields #[.int lo t, .int hi u, .int 1 v] }).objs.size], _, _, H, rfl,
    I1.kept (t' := tk) fun b o e => Heap.get?_push_of_some _ e, AVn _ lo (hi - lo).toNat, ?_, fun b hb => ?_, q⟩
  · have e1 : lo + ((0 : Nat) : Int) * 1 = lo := by simp
    have e2 : (((hi - lo).toNat : Nat) : Int) - ((0 : Nat) : Int) = Builtin.Range.rangeSize lo hi 1 := by rw [rangeSize_one]; split <;> omega
    show IsRangeIter _ _ (lo + ((0 : Nat) : Int) * 1) ((((hi - lo).toNat : Nat) : Int) - ((0 : Nat) : Int)) 1
    rw [e1, e2]
    exact Heap.get?_push_size _ rfl
  · have e : b = (s.heap.push { cls := .type "range", data := .fields #[.int lo t, .int hi u, .int 1 v] }).objs.size := by simpa using hb
    subst e
    exact I1.fpOk (Nat.le_refl _) (I1.hok.fresh (Nat.le_refl _))
noncomputable def iRng1 (ta : TA) : TI := fun σ H R => ta σ H fun vs H1 => ∃ j : Int, vs = [.int j] ∧ -(2 ^ 62) ≤ j ∧ j < 2 ^ 62 ∧ R (Itr 0 j.toNat) H1
noncomputable def BEc (ta : TA) : TI := fun σ H R => ta σ H fun vs H1 => ∃ i j : Int, vs = [.int i, .int j] ∧ (-(2 ^ 62) ≤ i ∧ i < 2 ^ 62 ∧ -(2 ^ 62) ≤ j ∧ j < 2 ^ 62) ∧ R (Itr i (j - i).toNat) H1
theorem AXn {a : Expr} {ta : TA} {p pos : Pos} (hg : Gl X "range") (hm : X.mg "range" = none) (ha : PA X [a] ta) (hs : starEach [a] X.env = [(false, eval a X.env)] := by rfl) : PI X tg (.Call (.Name "range" p) [a] [] pos) (iRng1 ta) := by
  intro pins s σ H R I h
  refine Call_ (AWe I hg hm boot_range (PyProof.Rows.callWith_type1 (thn (ha pos pins s σ H _ I h) fun us s1 ⟨vs, H1, I1, r1, q1⟩ => ?_) hs rfl))
  obtain ⟨j, e, q1, q2, q⟩ := q1
  subst e
  cases r1 with
  | cons r rr =>
    cases rr
    obtain ⟨t, rfl⟩ := r
    exact call_range_1 (ATu I1 (by omega) (by omega) q1 q2 (by simpa using q))
theorem AYi {a b : Expr} {ta : TA} {p pos : Pos} (hg : Gl X "range") (hm : X.mg "range" = none) (ha : PA X [a, b] ta) (hs : starEach [a, b] X.env = [(false, eval a X.env), (false, eval b X.env)] := by rfl) (hs2 : starEach [b] X.env = [(false, eval b X.env)] := by rfl) :
    PI X tg (.Call (.Name "range" p) [a, b] [] pos) (BEc ta) := by
  intro pins s σ H R I h
  refine Call_ (AWe I hg hm boot_range (PyProof.Rows.callWith_type1 (thn (ha pos pins s σ H _ I h) fun us s1 ⟨vs, H1, I1, r1, q1⟩ => ?_) (by rw [hs, hs2]) (by rw [hs2]; rfl)))
  obtain ⟨i, j, e, ⟨q1, q2, q3, q4⟩, q⟩ := q1
  subst e
  cases r1 with
  | cons r rr =>
    cases rr with
    | cons r' rr =>
      cases rr
      obtain ⟨t, rfl⟩ := r
      obtain ⟨t', rfl⟩ := r'
      exact call_range_2 (ATu I1 q1 q2 q3 q4 q)
noncomputable def tFor (wi : TI) (g : TG) (tb : TS) : TS := fun D σ H => wi σ H fun J H1 => ∃ W : Nat → Nat → St → Hp → Prop, (∃ m, W 0 m σ H1) ∧ ∀ i m σ H, W i m σ H →
  (J.stop i H ∧ D.nx σ H) ∨ (J.go i H ∧ ∃ N : St → Hp → Prop, (∀ σ' H', N σ' H' → ∃ m', m' < m ∧ W (i + 1) m' σ' H') ∧ ∀ x H', J.yld i H x H' → g x σ H' fun σ2 H2 => tb { D with nx := N, ct := N, bk := D.nx } σ2 H2)
noncomputable def AW3 (fp : List Addr) (h : Heap) : List (Addr × Obj) := fp.filterMap fun b => (h.get? b).map fun o => (b, o)
theorem AK9 {fp : List Addr} {h : Heap} {b : Addr} {o : Obj} (hb : b ∈ fp) (e : h.get? b = some o) : (b, o) ∈ AW3 fp h := List.mem_filterMap.mpr ⟨b, hb, by rw [e]; rfl⟩
theorem AZl {fp : List Addr} {h : Heap} {p : Addr × Obj} (hp : p ∈ AW3 fp h) : p.1 ∈ fp ∧ h.get? p.1 = some p.2 := by
  obtain ⟨b, hb, e⟩ := List.mem_filterMap.mp hp
  cases q : h.get? b with
  | none => rw [q] at e; cases e
  | some o =>
    rw [q] at e
    have e' : (b, o) = p := Option.some.inj e
    subst e'
    exact ⟨hb, q⟩
theorem Inv.pinned {pins : List (Addr × Obj)} {σ : St} {H : Hp} {s : Shared} {fp : List Addr} (I : Inv X pins σ H s) (hf : ∀ b ∈ fp, FpOk X pins H b) (ho : ∀ b ∈ fp, ∃ o, s.heap.get? b = some o ∧ ∀ v, o.data ≠ .cell v) : Inv X (pins ++ AW3 fp s.heap) σ H s :=
  I.pins_of fun p hp => (List.mem_append.mp hp).elim (fun z => I.pin p (List.mem_append_right _ z)) fun z => by
    obtain ⟨hb, e⟩ := AZl z
    obtain ⟨f0, f1, f2, _⟩ := hf p.1 hb
    obtain ⟨o, e', d⟩ := ho p.1 hb
    rw [e] at e'; cases e'
    exact ⟨e, f0, f1, f2, d⟩
theorem Inv.unpinned {pins pl : List (Addr × Obj)} {σ : St} {H : Hp} {s : Shared} (I : Inv X (pins ++ pl) σ H s) : Inv X pins σ H s := I.pins_of fun p hp => I.pin p (List.mem_append_right _ (List.mem_append_left _ hp))
theorem AUh {iter : Expr} {body : List Stmt} {wi : TI} {g : TG} {tb : TS} {pos : Pos} (hp : PassesOwn (model X.prog X.w) X.A X.env X.xe) (hc : X.calm = true) (hi : PI X tg iter wi) (hg : PG X tg g) (hb : PSs X body tb)
    (hs : ∀ x, foldedSetIterable iter X.env x = pure x := by intro _; rfl) : PS X (.For tg iter body [] pos) (tFor wi g tb) := by
  intro pins s σ H D I h
  refine wpAny_For (thn (hi pins s σ H _ I h) fun v s1 h1 => thn h1 fun itv s2 h2 => ?_) hs
  obtain ⟨it, fp, tn, J, H2, e, I2, T, st2, f2, W, ⟨m0, w0⟩, turn⟩ := h2
  subst e
  have stat : ∀ {H' : Hp}, (∀ b ∈ fp, H' b = none) → ∀ b ∈ fp, FpOk X pins H' b := fun hn b hb => ⟨hn b hb, (f2 b hb).2⟩
  refine codeAny_forLoop_any (fun n s' => ∃ i σ' H', Inv X pins σ' H' s' ∧ tn i s'.heap ∧ (∀ b ∈ fp, H' b = none) ∧ W i n σ' H') ?_ m0 ⟨0, σ, H2, I2, st2, fun b hb => (f2 b hb).1, w0⟩
  rintro n s3 ⟨i, σ3, H3, I3, st3, fr3, w3⟩
  rcases turn i n σ3 H3 w3 with ⟨stop, qn⟩ | ⟨go, N, hN, step⟩
  · refine wpAny_passesOwn hp (thn (T.done X rfl rfl rfl hc i pins s3 σ3 H3 X.xe I3 (stat fr3) st3 stop) fun r s4 ⟨hr, I4⟩ => ?_)
    subst hr
    exact wpAny_execs_nil ⟨σ3, H3, I4, qn⟩
  · refine wpAny_passesOwn hp (thn (T.item X rfl rfl rfl hc i pins s3 σ3 H3 X.xe I3 (stat fr3) st3 go) fun r s4 ⟨u, hr, h4⟩ => ?_)
    subst hr
    refine wpAny_passesOwn hp (thn h4 fun _ s5 ⟨x, H5, I5, r5, y5, st5, fr5⟩ => ?_)
    have I5' := I5.pinned (stat fr5) (T.obj _ _ st5)
    refine wpAny_passesOwn hp (thn (hg _ s5 σ3 H5 x u _ I5' r5 (step x H5 y5)) fun _ s6 ⟨σ6, H6, I6, q6⟩ => ?_)
    refine wpAny_passesOwn hp (thn (hb _ s6 σ6 H6 _ I6 q6) fun f s7 q7 => ?_)
    have again : ∀ {σ7 : St} {H7 : Hp}, Inv X (pins ++ AW3 fp s5.heap) σ7 H7 s7 → N σ7 H7 → ∃ m, m < n ∧ ∃ i σ' H', Inv X pins σ' H' s7 ∧ tn i s7.heap ∧ (∀ b ∈ fp, H' b = none) ∧ W i m σ' H' := fun {σ7 H7} I7 n7 => by
      obtain ⟨m', hm, w7⟩ := hN σ7 H7 n7
      refine ⟨m', hm, i + 1, σ7, H7, I7.unpinned, T.keep _ _ _ st5 fun b hb o e => (I7.pin (b, o) (List.mem_append_right _ (List.mem_append_right _ (AK9 hb e)))).1, fun b hb => ?_, w7⟩
      obtain ⟨o, e, d⟩ := T.obj _ _ st5 b hb
      exact (I7.pin (b, o) (List.mem_append_right _ (List.mem_append_right _ (AK9 hb e)))).2.1
    cases f with
    | next => obtain ⟨σ7, H7, I7, n7⟩ := q7; exact again I7 n7
    | cont => obtain ⟨σ7, H7, I7, n7⟩ := q7; exact again I7 n7
    | brk => obtain ⟨σ7, H7, I7, q7⟩ := q7; exact ⟨σ7, H7, I7.unpinned, q7⟩
    | ret v => obtain ⟨x7, σ7, H7, I7, r7, q7⟩ := q7; exact ⟨x7, σ7, H7, I7.unpinned, r7, q7⟩
end
theorem A2h {K : Frag} {a : Addr} {xs : List V} {g : TG} {tb : TS} {D : Ends} {σ : St} {H : Hp} (Pv : Nat → St → Hp → Prop) (h0 : Pv 0 σ H) (hl : ∀ i σ H, i ≤ xs.length → Pv i σ H → SqL K H a xs)
    (hs : ∀ i x σ H, xs[i]? = some x → Pv i σ H → g x σ H fun σ2 H2 => tb { D with nx := Pv (i + 1), ct := Pv (i + 1), bk := D.nx } σ2 H2) (hd : ∀ σ H, Pv xs.length σ H → D.nx σ H) :
    ∃ W : Nat → Nat → St → Hp → Prop, (∃ m, W 0 m σ H) ∧ ∀ i m σ H, W i m σ H →
      ((Itl K a).stop i H ∧ D.nx σ H) ∨ ((Itl K a).go i H ∧ ∃ N : St → Hp → Prop, (∀ σ' H', N σ' H' → ∃ m', m' < m ∧ W (i + 1) m' σ' H') ∧ ∀ x H', (Itl K a).yld i H x H' → g x σ H' fun σ2 H2 => tb { D with nx := N, ct := N, bk := D.nx } σ2 H2) := by
  refine ⟨fun i m σ H => m = xs.length - i ∧ i ≤ xs.length ∧ Pv i σ H, ⟨xs.length, by simp, Nat.zero_le _, h0⟩, ?_⟩
  rintro i m σ H ⟨rfl, hi, p⟩
  have q := hl i σ H hi p
  by_cases hlt : i < xs.length
  · refine .inr ⟨⟨xs, xs[i], q, by simp [hlt]⟩, Pv (i + 1), fun σ' H' p' => ⟨xs.length - (i + 1), by omega, rfl, hlt, p'⟩, fun x H' y => ?_⟩
    obtain ⟨e, y⟩ := y
    subst e
    exact hs i x σ _ (y xs q) p
  · have e : i = xs.length := by omega
    subst e
    exact .inl ⟨⟨xs, q, Nat.le_refl _⟩, hd σ H p⟩
theorem A6n {K : Frag} {a : Addr} {xs : List V} {g : TG} {tb : TS} {D : Ends} {σ : St} {H : Hp} (Pv : Nat → St → Hp → Prop) (h0 : Pv 0 σ H) (hl : ∀ i σ H, i ≤ xs.length → Pv i σ H → SqT K H a xs)
    (hs : ∀ i x σ H, xs[i]? = some x → Pv i σ H → g x σ H fun σ2 H2 => tb { D with nx := Pv (i + 1), ct := Pv (i + 1), bk := D.nx } σ2 H2) (hd : ∀ σ H, Pv xs.length σ H → D.nx σ H) :
    ∃ W : Nat → Nat → St → Hp → Prop, (∃ m, W 0 m σ H) ∧ ∀ i m σ H, W i m σ H →
      ((Itt K a).stop i H ∧ D.nx σ H) ∨ ((Itt K a).go i H ∧ ∃ N : St → Hp → Prop, (∀ σ' H', N σ' H' → ∃ m', m' < m ∧ W (i + 1) m' σ' H') ∧ ∀ x H', (Itt K a).yld i H x H' → g x σ H' fun σ2 H2 => tb { D with nx := N, ct := N, bk := D.nx } σ2 H2) := by
  refine ⟨fun i m σ H => m = xs.length - i ∧ i ≤ xs.length ∧ Pv i σ H, ⟨xs.length, by simp, Nat.zero_le _, h0⟩, ?_⟩
  rintro i m σ H ⟨rfl, hi, p⟩
  have q := hl i σ H hi p
  by_cases hlt : i < xs.length
  · refine .inr ⟨⟨xs, xs[i], q, by simp [hlt]⟩, Pv (i + 1), fun σ' H' p' => ⟨xs.length - (i + 1), by omega, rfl, hlt, p'⟩, fun x H' y => ?_⟩
    obtain ⟨e, y⟩ := y
    subst e
    exact hs i x σ _ (y xs q) p
  · have e : i = xs.length := by omega
    subst e
    exact .inl ⟨⟨xs, q, Nat.le_refl _⟩, hd σ H p⟩
theorem AYr {lo : Int} {n : Nat} {g : TG} {tb : TS} {D : Ends} {σ : St} {H : Hp} (Pv : Nat → St → Hp → Prop) (h0 : Pv 0 σ H)
    (hs : ∀ i σ H, i < n → Pv i σ H → g (.int (lo + i)) σ H fun σ2 H2 => tb { D with nx := Pv (i + 1), ct := Pv (i + 1), bk := D.nx } σ2 H2) (hd : ∀ σ H, Pv n σ H → D.nx σ H) :
    ∃ W : Nat → Nat → St → Hp → Prop, (∃ m, W 0 m σ H) ∧ ∀ i m σ H, W i m σ H →
      ((Itr lo n).stop i H ∧ D.nx σ H) ∨ ((Itr lo n).go i H ∧ ∃ N : St → Hp → Prop, (∀ σ' H', N σ' H' → ∃ m', m' < m ∧ W (i + 1) m' σ' H') ∧ ∀ x H', (Itr lo n).yld i H x H' → g x σ H' fun σ2 H2 => tb { D with nx := N, ct := N, bk := D.nx } σ2 H2) := by
  refine ⟨fun i m σ H => m = n - i ∧ i ≤ n ∧ Pv i σ H, ⟨n, by simp, Nat.zero_le _, h0⟩, ?_⟩
  rintro i m σ H ⟨rfl, hi, p⟩
  by_cases hlt : i < n
  · refine .inr ⟨hlt, Pv (i + 1), fun σ' H' p' => ⟨n - (i + 1), by omega, rfl, hlt, p'⟩, fun x H' y => ?_⟩
    obtain ⟨e, y⟩ := y
    subst e y
    exact hs i σ _ hlt p
  · have e : i = n := by omega
    subst e
    exact .inl ⟨Nat.le_refl _, hd σ H p⟩
end L2
namespace L2
open PySem PySem.Spec PyProof.Rows
noncomputable abbrev R2 := V → V → Hp → VK → Prop
noncomputable def OpR (X : Cx) (f : Value → Value → Sem Value) (r : R2) : Prop :=
  ∀ (pins : List (Addr × Obj)) (s : Shared) (σ : St) (H : Hp) (x y : V) (v u : Value) (Q : VK), Inv X pins σ H s → RelV x v → RelV y u → r x y H Q →
    wpAny (model X.prog X.w) X.A (f v u) (EP X pins σ Q) X.xe s
noncomputable def UnR (X : Cx) (f : Value → Sem Value) (r : V → Hp → VK → Prop) : Prop :=
  ∀ (pins : List (Addr × Obj)) (s : Shared) (σ : St) (H : Hp) (x : V) (v : Value) (Q : VK), Inv X pins σ H s → RelV x v → r x H Q →
    wpAny (model X.prog X.w) X.A (f v) (EP X pins σ Q) X.xe s
noncomputable def A62 (X : Cx) (f : Value) (r : List V → Hp → VK → Prop) : Prop :=
  ∀ (pins : List (Addr × Obj)) (s : Shared) (σ : St) (H : Hp) (xs : List V) (us : List Value) (Q : VK), Inv X pins σ H s → Vals xs us → r xs H Q →
    wpAny (model X.prog X.w) X.A (call f us) (EP X pins σ Q) X.xe s
noncomputable def TruR (X : Cx) (r : V → Hp → (Bool → Hp → Prop) → Prop) : Prop :=
  ∀ (pins : List (Addr × Obj)) (s : Shared) (σ : St) (H : Hp) (x : V) (v : Value) (Q : Bool → Hp → Prop), Inv X pins σ H s → RelV x v → r x H Q →
    wpAny (model X.prog X.w) X.A (truthy v) (TP X pins σ Q) X.xe s
noncomputable def tOp (r : R2) (ta tb : TE) : TE := fun σ H Q => ta σ H fun x H1 => tb σ H1 fun y H2 => r x y H2 Q
noncomputable def tUn (r : V → Hp → VK → Prop) (ta : TE) : TE := fun σ H Q => ta σ H fun x H1 => r x H1 Q
noncomputable def rI (C : Int → Int → Prop) (g : Int → Int → V) : R2 := fun x y H Q => ∃ i j, x = .int i ∧ y = .int j ∧ C i j ∧ Q (g i j) H
noncomputable def rI0 (g : Int → Int → V) : R2 := fun x y H Q => ∃ i j, x = .int i ∧ y = .int j ∧ Q (g i j) H
noncomputable def rU (g : Int → V) : V → Hp → VK → Prop := fun x H Q => ∃ i, x = .int i ∧ Q (g i) H
section
variable {X : Cx} {a b c : Expr} {ta tb tc : TE} {pos : Pos}
theorem binT (ha : PE X a ta) (hb : PE X b tb) {pins : List (Addr × Obj)} {s : Shared} {σ : St} {H : Hp} {R : V → V → Hp → Prop} (I : Inv X pins σ H s)
    (h : ta σ H fun x H1 => tb σ H1 fun y H2 => R x y H2) {Q : Value → Shared → Prop} {f : Value → Value → Sem Value}
    (hf : ∀ v u s2 x y H2, Inv X pins σ H2 s2 → RelV x v → RelV y u → R x y H2 → wpAny (model X.prog X.w) X.A (f v u) Q X.xe s2) :
    wpAny (model X.prog X.w) X.A (eval a X.env) (fun v s₁ => wpAny (model X.prog X.w) X.A (eval b X.env) (fun u s₂ => wpAny (model X.prog X.w) X.A (f v u) Q X.xe s₂) X.xe s₁) X.xe s := by
  refine thn (ha pins s σ H _ I h) fun v s1 ⟨x, H1, I1, r1, q1⟩ => ?_
  refine thn (hb pins s1 σ H1 _ I1 q1) fun u s2 ⟨y, H2, I2, r2, q2⟩ => ?_
  exact hf v u s2 x y H2 I2 r1 r2 q2
theorem AAl {op : Operator} {r : R2} (ho : OpR X (binaryOp op) r) (ha : PE X a ta) (hb : PE X b tb) : PE X (.BinOp a op b pos) (tOp r ta tb) := by
  intro pins s σ H Q I h
  exact wpAny_BinOp (binT ha hb I h fun v u s2 x y H2 I2 rx ry q => ho pins s2 σ H2 x y v u Q I2 rx ry q)
theorem BCi {op : UnaryOp} {r : V → Hp → VK → Prop} (ho : UnR X (unaryOp op) r) (ha : PE X a ta) : PE X (.UnaryOp op a pos) (tUn r ta) := by
  intro pins s σ H Q I h
  exact UnaryOp_ (thn (ha pins s σ H _ I h) fun v s1 ⟨x, H1, I1, r1, q1⟩ => ho pins s1 σ H1 x v Q I1 r1 q1)
theorem opI {f : Value → Value → Sem Value} {C : Int → Int → Prop} {g : Int → Int → Int}
    (rule : ∀ (i j : Int) (t u : Tok) (s : Shared) (Q : Value → Shared → Prop) (E : Value → Shared → Prop), C i j → Q (.int (g i j) s.toks) { s with toks := s.toks + 1 } → wpAny (model X.prog X.w) X.A (f (.int i t) (.int j u)) Q E s) :
    OpR X f (rI C fun i j => .int (g i j)) := by
  intro pins s σ H x y v u Q I rx ry h
  obtain ⟨i, j, rfl, rfl, hc, q⟩ := h
  obtain ⟨t, rfl⟩ := rx
  obtain ⟨t', rfl⟩ := ry
  exact rule i j t t' s _ _ hc ⟨.int (g i j), H, I.tok _, ⟨_, rfl⟩, q⟩
theorem opI0 {f : Value → Value → Sem Value} {g : Int → Int → Int}
    (rule : ∀ (i j : Int) (t u : Tok) (s : Shared) (Q : Value → Shared → Prop) (E : Value → Shared → Prop), Q (.int (g i j) s.toks) { s with toks := s.toks + 1 } → wpAny (model X.prog X.w) X.A (f (.int i t) (.int j u)) Q E s) :
    OpR X f (rI0 fun i j => .int (g i j)) := by
  intro pins s σ H x y v u Q I rx ry h
  obtain ⟨i, j, rfl, rfl, q⟩ := h
  obtain ⟨t, rfl⟩ := rx
  obtain ⟨t', rfl⟩ := ry
  exact rule i j t t' s _ _ ⟨.int (g i j), H, I.tok _, ⟨_, rfl⟩, q⟩
theorem opB0 {f : Value → Value → Sem Value} {g : Int → Int → Bool}
    (rule : ∀ (i j : Int) (t u : Tok) (s : Shared) (Q : Value → Shared → Prop) (E : Value → Shared → Prop), Q (.bool (g i j)) s → wpAny (model X.prog X.w) X.A (f (.int i t) (.int j u)) Q E s) :
    OpR X f (rI0 fun i j => .bl (g i j)) := by
  intro pins s σ H x y v u Q I rx ry h
  obtain ⟨i, j, rfl, rfl, q⟩ := h
  obtain ⟨t, rfl⟩ := rx
  obtain ⟨t', rfl⟩ := ry
  exact rule i j t t' s _ _ ⟨.bl (g i j), H, I, rfl, q⟩
noncomputable def CPow (i j : Int) : Prop := 0 ≤ j ∧ j ≤ 1000000 ∧ i.natAbs < 2 ^ 64
noncomputable def CMul (i j : Int) : Prop := (-(2 ^ 64) < i ∧ i < 2 ^ 64) ∨ (-(2 ^ 64) < j ∧ j < 2 ^ 64)
theorem CMul.ok {i j : Int} (h : CMul i j) : IntMulOk i j := by
  rcases h with ⟨h1, h2⟩ | ⟨h1, h2⟩
  · exact .of_left (intBits_le_64 h1 h2)
  · exact .of_right (intBits_le_64 h1 h2)
theorem AW2 (k : Nat) : (0 : Int) ≤ 2 ^ k := by
  rw [two_pow_cast]
  exact Int.natCast_nonneg _
theorem AZd : OpR X (binaryOp .Add) (rI0 fun i j => .int (i + j)) := opI0 fun _ _ _ _ _ _ _ q => add_int q
theorem AMt : OpR X (binaryOp .Sub) (rI0 fun i j => .int (i - j)) := opI0 fun _ _ _ _ _ _ _ q => sub_int q
theorem AX3 : OpR X (binaryOp .Mult) (rI CMul fun i j => .int (i * j)) := opI fun _ _ _ _ _ _ _ hc q => mul_int q hc.ok
theorem BA7 : OpR X (binaryOp .Mod) (rI (fun _ j => 0 < j) fun i j => .int (i % j)) := opI fun i j _ _ _ _ _ hc q => by
  have h1 : (0 : Int) < j := hc
  exact mod_int' (by omega) (by rw [Int.fmod_eq_emod_of_nonneg i (by omega)]; exact q)
theorem A7w : OpR X (binaryOp .LShift) (rI CPow fun i j => .int (i * 2 ^ j.toNat)) := opI fun _ _ _ _ _ _ _ hc q => lshift_int_small hc.1 hc.2.1 hc.2.2 q
theorem AY5 : OpR X (binaryOp .RShift) (rI (fun _ j => 0 ≤ j) fun i j => .int (i / 2 ^ j.toNat)) := opI fun i j _ _ _ _ _ hc q =>
  rshift_int hc (by rw [Int.fdiv_eq_ediv_of_nonneg i (AW2 _)]; exact q)
theorem AG8 : OpR X (binaryOp .BitAnd) (rI0 fun i j => .int (Builtin.bitAnd i j)) := opI0 fun _ _ _ _ _ _ _ q => and_int q
theorem BEb : OpR X (binaryOp .BitOr) (rI0 fun i j => .int (Builtin.bitOr i j)) := opI0 fun _ _ _ _ _ _ _ q => or_int q
theorem BBb : OpR X (binaryOp .BitXor) (rI0 fun i j => .int (Builtin.bitXor i j)) := opI0 fun _ _ _ _ _ _ _ q => xor_int q
theorem unI {f : Value → Sem Value} {g : Int → Int}
    (rule : ∀ (i : Int) (t : Tok) (s : Shared) (Q : Value → Shared → Prop) (E : Value → Shared → Prop), Q (.int (g i) s.toks) { s with toks := s.toks + 1 } → wpAny (model X.prog X.w) X.A (f (.int i t)) Q E s) :
    UnR X f (rU fun i => .int (g i)) := by
  intro pins s σ H x v Q I rx h
  obtain ⟨i, rfl, q⟩ := h
  obtain ⟨t, rfl⟩ := rx
  exact rule i t s _ _ ⟨.int (g i), H, I.tok _, ⟨_, rfl⟩, q⟩
theorem A2m : UnR X (unaryOp .USub) (rU fun i => .int (-i)) := unI fun _ _ _ _ _ q => neg_int q
end
noncomputable def scal : V → V → Bool
  | .non, .non => true | .non, .int _ => true | .int _, .non => true | .non, .bl _ => true | .bl _, .non => true | .non, .str _ => true | .str _, .non => true
  | .int _, .int _ => true | .bl _, .bl _ => true | .str _, .str _ => true | .byt _, .byt _ => true
  | .int _, .str _ => true | .str _, .int _ => true | .bl _, .str _ => true | .str _, .bl _ => true
  | _, _ => false
noncomputable def rEq : R2 := fun x y H Q => scal x y = true ∧ Q (.bl (decide (x = y))) H
noncomputable def rNe : R2 := fun x y H Q => scal x y = true ∧ Q (.bl (!decide (x = y))) H
theorem A1n {i j : Int} : decide (V.int i = V.int j) = (i == j) := by
  rw [Bool.eq_iff_iff]
  simp
theorem AXw {i j : Bool} : decide (V.bl i = V.bl j) = (i == j) := by
  rw [Bool.eq_iff_iff]
  simp
theorem A1h {i j : Str} : decide (V.str i = V.str j) = (i == j) := by
  rw [Bool.eq_iff_iff]
  simp
theorem A1p {i j : Array UInt8} : decide (V.byt i = V.byt j) = (i.toList == j.toList) := by
  rw [Bool.eq_iff_iff]
  cases i
  cases j
  simp
section
variable {X : Cx} {a b c : Expr} {ta tb tc : TE} {pos : Pos}
theorem ADp {pins : List (Addr × Obj)} {σ : St} {H : Hp} {s : Shared} {Q : VK} {k k' : Bool} (I : Inv X pins σ H s) (q : Q (.bl k) H) (e : k = k') : EP X pins σ Q (.bool k') s := by
  subst e
  exact ⟨.bl k, H, I, rfl, q⟩
theorem AEl : OpR X (compareOp .Eq) rEq := by
  intro pins s σ H x y v u Q I rx ry h
  obtain ⟨hs, q⟩ := h
  cases x with
  | non =>
    cases rx
    cases y with
    | non => cases ry; exact PySem.EqNone.eq_none_none (ADp I q (by simp))
    | bl j => cases ry; exact PySem.EqNone.eq_none_bool (ADp I q (by simp))
    | int j => obtain ⟨t', rfl⟩ := ry; exact PySem.EqNone.eq_none_int (ADp I q (by simp))
    | str j => obtain ⟨t', rfl⟩ := ry; exact PySem.EqNone.eq_none_str (ADp I q (by simp))
    | _ => exact absurd (show false = true from hs) Bool.false_ne_true
  | bl i =>
    cases rx
    cases y with
    | non => cases ry; exact PySem.EqNone.eq_bool_none (ADp I q (by simp))
    | bl j => cases ry; exact eq_bool (ADp I q AXw)
    | str j => obtain ⟨t', rfl⟩ := ry; exact PySem.EqMixed.eq_bool_str (ADp I q (by simp))
    | _ => exact absurd (show false = true from hs) Bool.false_ne_true
  | int i =>
    obtain ⟨t, rfl⟩ := rx
    cases y with
    | non => cases ry; exact PySem.EqNone.eq_int_none (ADp I q (by simp))
    | int j => obtain ⟨t', rfl⟩ := ry; exact eq_int (ADp I q A1n)
    | str j => obtain ⟨t', rfl⟩ := ry; exact PySem.EqMixed.eq_int_str (ADp I q (by simp))
    | _ => exact absurd (show false = true from hs) Bool.false_ne_true
  | str i =>
    obtain ⟨t, rfl⟩ := rx
    cases y with
    | non => cases ry; exact PySem.EqNone.eq_str_none (ADp I q (by simp))
    | bl j => cases ry; exact PySem.EqMixed.eq_str_bool (ADp I q (by simp))
    | int j => obtain ⟨t', rfl⟩ := ry; exact PySem.EqMixed.eq_str_int (ADp I q (by simp))
    | str j => obtain ⟨t', rfl⟩ := ry; exact eq_str (ADp I q A1h)
    | _ => exact absurd (show false = true from hs) Bool.false_ne_true
  | byt i =>
    obtain ⟨t, rfl⟩ := rx
    cases y with
    | byt j => obtain ⟨t', rfl⟩ := ry; exact PySem.W.eq_bytes (ADp I q A1p)
    | _ => exact absurd (show false = true from hs) Bool.false_ne_true
  | _ => cases y <;> exact absurd (show false = true from hs) Bool.false_ne_true
theorem A54 : OpR X (compareOp .NotEq) rNe := by
  intro pins s σ H x y v u Q I rx ry h
  obtain ⟨hs, q⟩ := h
  cases x with
  | non =>
    cases rx
    cases y with
    | non => cases ry; exact PySem.EqNone.ne_none_none (ADp I q (by simp))
    | bl j => cases ry; exact PySem.EqNone.ne_none_bool (ADp I q (by simp))
    | int j => obtain ⟨t', rfl⟩ := ry; exact PySem.EqNone.ne_none_int (ADp I q (by simp))
    | str j => obtain ⟨t', rfl⟩ := ry; exact PySem.EqNone.ne_none_str (ADp I q (by simp))
    | _ => exact absurd (show false = true from hs) Bool.false_ne_true
  | bl i =>
    cases rx
    cases y with
    | non => cases ry; exact PySem.EqNone.ne_bool_none (ADp I q (by simp))
    | bl j => cases ry; exact ne_bool (ADp I q (congrArg not AXw))
    | str j => obtain ⟨t', rfl⟩ := ry; exact PySem.EqMixed.ne_bool_str (ADp I q (by simp))
    | _ => exact absurd (show false = true from hs) Bool.false_ne_true
  | int i =>
    obtain ⟨t, rfl⟩ := rx
    cases y with
    | non => cases ry; exact PySem.EqNone.ne_int_none (ADp I q (by simp))
    | int j => obtain ⟨t', rfl⟩ := ry; exact ne_int (ADp I q (congrArg not A1n))
    | str j => obtain ⟨t', rfl⟩ := ry; exact PySem.EqMixed.ne_int_str (ADp I q (by simp))
    | _ => exact absurd (show false = true from hs) Bool.false_ne_true
  | str i =>
    obtain ⟨t, rfl⟩ := rx
    cases y with
    | non => cases ry; exact PySem.EqNone.ne_str_none (ADp I q (by simp))
    | bl j => cases ry; exact PySem.EqMixed.ne_str_bool (ADp I q (by simp))
    | int j => obtain ⟨t', rfl⟩ := ry; exact PySem.EqMixed.ne_str_int (ADp I q (by simp))
    | str j => obtain ⟨t', rfl⟩ := ry; exact ne_str (ADp I q (congrArg not A1h))
    | _ => exact absurd (show false = true from hs) Bool.false_ne_true
  | byt i =>
    obtain ⟨t, rfl⟩ := rx
    cases y with
    | byt j => obtain ⟨t', rfl⟩ := ry; exact PySem.W.ne_bytes (ADp I q (congrArg not A1p))
    | _ => exact absurd (show false = true from hs) Bool.false_ne_true
  | _ => cases y <;> exact absurd (show false = true from hs) Bool.false_ne_true
theorem BAe : OpR X (compareOp .Lt) (rI0 fun i j => .bl (decide (i < j))) := opB0 fun _ _ _ _ _ _ _ q => lt_int q
theorem op_le : OpR X (compareOp .LtE) (rI0 fun i j => .bl (decide (i ≤ j))) := opB0 fun _ _ _ _ _ _ _ q => le_int q
theorem A6m : OpR X (compareOp .Gt) (rI0 fun i j => .bl (decide (j < i))) := opB0 fun _ _ _ _ _ _ _ q => gt_int q
theorem ADs {op : CmpOp} {r : R2} (ho : OpR X (compareOp op) r) (ha : PE X a ta) (hb : PE X b tb) (hm : behindInMarks op b = false) : PE X (.Compare a [op] [b] pos) (tOp r ta tb) := by
  intro pins s σ H Q I h
  exact wpAny_Compare1 (binT ha hb I h fun v u s2 x y H2 I2 rx ry q => ho pins s2 σ H2 x y v u Q I2 rx ry q) hm
noncomputable def A50 (t : TE) : TT := fun σ H Q => t σ H fun x H' => ∃ k, x = .bl k ∧ Q k H'
theorem AAy {op : CmpOp} {r : R2} (ho : OpR X (compareOp op) r) (ha : PE X a ta) (hb : PE X b tb) (hm : behindInMarks op b = false) : PT X (.Compare a [op] [b] pos) (A50 (tOp r ta tb)) := by
  intro pins s σ H Q I h
  refine wpAny_isTrue_Compare1 (thn (ha pins s σ H _ I h) fun v s1 ⟨x, H1, I1, r1, q1⟩ => thn (hb pins s1 σ H1 _ I1 q1) fun u s2 ⟨y, H2, I2, r2, q2⟩ =>
    thn (ho pins s2 σ H2 x y v u _ I2 r1 r2 q2) fun c s3 ⟨z, H3, I3, r3, k, e, q3⟩ => ?_) hm
  subst e
  cases r3
  exact wpAny_truthy_bool ⟨H3, I3, q3⟩
noncomputable def TruV (K : Frag) (x : V) (H : Hp) (k : Bool) : Prop :=
  match x with
  | .non => k = false
  | .bl b => k = b
  | .int i => k = (i != 0)
  | .str y => y.length ≤ sizeLine ∧ k = ((y.length : Int) != 0)
  | .byt y => y.size ≤ sizeLine ∧ k = ((y.size : Int) != 0)
  | .ref p => (∃ xs, SqL K H p xs ∧ k = !xs.isEmpty) ∨ (∃ xs, SqT K H p xs ∧ k = !xs.isEmpty) ∨ ∃ kvs, H p = some (.dK kvs) ∧ k = !kvs.isEmpty
  | _ => False
theorem AUz {κ : Type} {kvs : List (κ × V)} {vs : List (κ × Value)} (r : KV kvs vs) : (!vs.isEmpty) = !kvs.isEmpty := by
  cases r <;> rfl
theorem AOk {xs : List V} {its : List Value} (r : Vals xs its) : (!its.toArray.isEmpty) = !xs.isEmpty := by
  cases r <;> simp
theorem AVe : (sizeLine : Nat) < 2 ^ 63 := by rw [sizeLine_eq]; decide
theorem BCs : TruR X (fun x H Q => ∃ k, TruV X.K x H k ∧ Q k H) := by
  intro pins s σ H x v Q I rx h
  obtain ⟨k, e, q⟩ := h
  have hl := AVe
  have hs : sizeLine = 16777216 := sizeLine_eq
  cases x with
  | non =>
    cases rx
    have e' : k = false := e
    subst e'
    exact truthy_none ⟨H, I, q⟩
  | bl b =>
    cases rx
    have e' : k = b := e
    subst e'
    exact wpAny_truthy_bool ⟨H, I, q⟩
  | int i =>
    obtain ⟨t, rfl⟩ := rx
    have e' : k = (i != 0) := e
    subst e'
    exact PySem.P.truthy_int ⟨H, I, q⟩
  | str y =>
    obtain ⟨t, rfl⟩ := rx
    obtain ⟨hy, e'⟩ : y.length ≤ sizeLine ∧ k = ((y.length : Int) != 0) := e
    subst e'
    exact PySem.P.truthy_str (by omega) ⟨H, I.tok _, q⟩
  | byt y =>
    obtain ⟨t, rfl⟩ := rx
    obtain ⟨hy, e'⟩ : y.size ≤ sizeLine ∧ k = ((y.size : Int) != 0) := e
    subst e'
    exact PySem.W.truthy_bytes (by omega) ⟨H, I.tok _, q⟩
  | ref p =>
    cases rx
    have e' : (∃ xs, SqL X.K H p xs ∧ k = !xs.isEmpty) ∨ (∃ xs, SqT X.K H p xs ∧ k = !xs.isEmpty) ∨ ∃ kvs, H p = some (.dK kvs) ∧ k = !kvs.isEmpty := e
    rcases e' with ⟨xs, hx, e'⟩ | ⟨xs, hx, e'⟩ | ⟨kvs, hx, e'⟩
    · subst e'
      obtain ⟨its, r, pl, hz⟩ := I.list hx
      have hlen := r.length
      exact wpAny_truthy_list pl.isList (by simp only [List.size_toArray]; omega) ⟨H, I.tok _, by rw [AOk r]; exact q⟩
    · subst e'
      obtain ⟨its, r, pl, hz⟩ := I.tuple hx
      have hlen := r.length
      exact truthy_tuple pl (by simp only [List.size_toArray]; omega) ⟨H, I.tok _, by rw [AOk r]; exact q⟩
    · subst e'
      obtain ⟨hz, hS, vs, r, m⟩ : kvs.length ≤ sizeLine ∧ (p == sysModules) = false ∧ ∃ vs, KV kvs vs ∧ s.heap.DictOf (AD3 X.prog X.w) p vs := I.hok p _ hx
      have hlen : kvs.length = vs.length := Paired.length r
      exact wpAny_truthy_dict hS m (by omega) ⟨H, I.tok _, by rw [AUz r]; exact q⟩
  | _ => exact (show False from e).elim
theorem AFf (ha : PE X a ta) (he : ∀ whole, isTrue a X.env whole = (do let v ← whole; standAt a.pos; holding [v] (truthy v))) :
    PT X a (fun σ H Q => ta σ H fun x H' => ∃ k, TruV X.K x H' k ∧ Q k H') := by
  intro pins s σ H Q I h
  exact isTrue_plain (thn (ha pins s σ H _ I h) fun v s1 ⟨x, H1, I1, r1, q1⟩ => BCs pins s1 σ H1 x v Q I1 r1 q1) (he _)
theorem vals1 {x : V} {us : List Value} (r : Vals [x] us) : ∃ u, us = [u] ∧ RelV x u := by
  cases r with
  | cons r1 r2 => cases r2; exact ⟨_, rfl, r1⟩
end
end L2
namespace L2
open PySem PySem.Spec PyProof.Rows
structure ObjM (h : Heap) (x dx C : Addr) (mA : Str → Option Value) : Prop where
  obj : h.get? x = some (PySem.W.instObj C dx)
  ns : h.Ns1 dx mA
  ne : dx ≠ x
theorem AXs {h : Heap} {dx : Addr} {mA : Str → Option Value} (n : h.Ns1 dx mA) : ∃ od, h.get? dx = some od ∧ ∀ name, PySem.W.lookIn name od = some (mA name) := by
  obtain ⟨o, es, ep, ho, hd, hk, _, hm⟩ := n
  refine ⟨o, ho, fun name => ?_⟩
  have e := hm name
  unfold nsFind findBy at e
  rw [← Array.find?_toList] at e
  unfold PySem.W.lookIn
  rw [hd]
  dsimp only
  split
  · rename_i y q
    rw [q] at e
    exact congrArg some e
  · rename_i q
    rw [q] at e
    have a : es.toList.any (·.refKey) = false := by
      rw [List.any_eq_false]
      intro y hy
      obtain ⟨z, t, hkey⟩ := hk y (Array.mem_toList_iff.mp hy)
      simp [DictEntry.refKey, hkey]
    have a' : ¬ es.toList.any (·.refKey) = true := by rw [a]; exact Bool.false_ne_true
    rw [if_neg a']
    exact congrArg some e
theorem ObjM.look {h : Heap} {x dx C : Addr} {mA : Str → Option Value} (I : ObjM h x dx C mA) : ∃ od, PySem.W.InstAt h x (PySem.W.instObj C dx) C (some od) ∧ ∀ name, PySem.W.lookIn name od = some (mA name) :=
  let ⟨od, ho, hl⟩ := AXs I.ns
  ⟨od, ⟨I.obj, rfl, rfl, ho⟩, hl⟩
section
variable {prog : Program} {w : World} {A : Around} {E : Value → Shared → Prop} {s : Shared} {K : Frag} {x dx C f : Addr} {mA : Str → Option Value} {name : Str} {v : Value}
theorem get_map {expr : Bool} {Q : Value → Shared → Prop} (X : K.In s.heap) (I : ObjM s.heap x dx C mA) (hg : PySem.W.plainGet K C name = true) (hh : PySem.W.hasDictIn K C = true)
    (ha : findIn K (.ref C) name = some none) (hv : mA name = some v) (hv' : PySem.W.handedIn v = true) (h : Q v { s with toks := s.toks + 1 }) :
    wpAny (model prog w) A (getAttr (.ref x) name expr) Q E s := by
  obtain ⟨od, J, hl⟩ := I.look
  exact PySem.W.get_value X J (PySem.W.plainGet_of hg).1 (PySem.W.findObj_own hh ha rfl (by rw [hl, hv])) hv' h
theorem A6d {ns : List Str} {Q : Unit → Shared → Prop} (X : K.In s.heap) (I : ObjM s.heap x dx C mA)
    (hs : findIn K (.ref C) "__setattr__" = some (some (.builtin "object.__setattr__"))) (hp : PySem.W.plainOver K C = true) (ht : PySem.W.takerIn K C name = some none) (hh : PySem.W.hasDictIn K C = true)
    (hw : PySem.Within mA ns) (hsz : ns.length ≤ sizeLine)
    (h : ∀ h', ObjM h' x dx C (fun y => if y = name then some v else mA y) → Heap.SameBut dx s.heap h' → Q () { s with heap := h', toks := s.toks + 2 }) :
    wpAny (model prog w) A (setAttr (.ref x) name v) Q E s := by
  obtain ⟨od, J, hl⟩ := I.look
  refine PySem.W.set_plain X J hs (PySem.W.osa_open (s := { s with toks := s.toks + 1 }) (r := none) X J hp ht fun b => ?_)
  obtain ⟨cd, hc, hd'⟩ := PySem.W.any_some hh
  have hx : s.heap.get? x = some ⟨.ref C, some dx, .plain, #[]⟩ := I.obj
  refine wpAny_bind (wpAny_pure (wpAny_bind (wpAny_bind (wpAny_loadPart hx (wpAny_bind (PySem.W.Looks.here (s := { s with toks := s.toks + 1 }) (PySem.W.looks_clsIn X hc) ?_))))))
  rw [hd']
  refine wpAny_pure (a := some dx) (wpAny_bind (wpAny_pure (wpAny_bind ?_)))
  refine wpAny_nsSet1 (s := { s with toks := s.toks + 1 }) I.ns fun h' hn2 hs2 => ?_
  obtain ⟨oD, esD, epD, hoD, hdD, hcD⟩ := hn2.count (PySem.Within.cons name v hw)
  refine wpAny_bind (wpAny_lookBehind hoD (by rw [hdD]; exact pastItsLine_dict (Nat.le_trans hcD (by rw [List.length_cons]; omega))) ?_)
  exact wpAny_pure (h _ ⟨(hs2.2 _ (Ne.symm I.ne)).trans I.obj, hn2, I.ne⟩ hs2)
theorem A3o {R : Result → Shared → Prop} {vs : List Value} {kw : List (Str × Value)} (X : K.In s.heap) (hm : PySem.W.makesIn K C = true)
    (hi : findIn K (.ref C) "__init__" = some (some (.ref f))) (hf : PySem.W.typeIn K (.ref f) = some (.type "function"))
    (h : codeAny (model prog w) (A.under (.builtin "type.__call__" ⟨.ref C :: vs, kw⟩)) (.call (.ref f) ⟨.ref (s.heap.objs.size + 1) :: vs, kw⟩) (PySem.W.InitBack (s.heap.objs.size + 1) R)
      { s with heap := (s.heap.push PySem.W.emptyDict).push (PySem.W.instObj C s.heap.objs.size) }) :
    codeAny (model prog w) A (.call (.ref C) ⟨vs, kw⟩) R s := by
  obtain ⟨hh, g, d, t, os⟩ := s
  exact PySem.W.make_core (PySem.W.makes_of X hm) (PySem.W.looks_findIn X hi) (fun self => PySem.W.bind_fn X self hf) (.inl rfl) h
end
noncomputable def putF (f : Str) (v : V) : List (Str × V) → List (Str × V)
  | [] => [(f, v)]
  | (g, x) :: r => if g = f then (g, v) :: r else (g, x) :: putF f v r
theorem AMl (f g : Str) (v : V) : ∀ fs : List (Str × V), (putF f v fs).lookup g = if g = f then some v else fs.lookup g
  | [] => by
    show List.lookup g [(f, v)] = _
    by_cases h : g = f
    · have hb : (g == f) = true := beq_iff_eq.mpr h
      simp only [List.lookup, hb, if_pos h]
    · have hb : (g == f) = false := beq_eq_false_iff_ne.mpr h
      simp only [List.lookup, hb, if_neg h]
  | (k, x) :: r => by
    have ih := AMl f g v r
    rw [show putF f v ((k, x) :: r) = (if k = f then (k, v) :: r else (k, x) :: putF f v r) from rfl]
    by_cases hk : k = f
    · rw [if_pos hk]
      by_cases h : g = k
      · have hb : (g == k) = true := beq_iff_eq.mpr h
        simp only [List.lookup, hb, if_pos (h.trans hk)]
      · have hb : (g == k) = false := beq_eq_false_iff_ne.mpr h
        simp only [List.lookup, hb, if_neg (fun e : g = f => h (e.trans hk.symm))]
    · rw [if_neg hk]
      by_cases h : g = k
      · have hb : (g == k) = true := beq_iff_eq.mpr h
        simp only [List.lookup, hb, if_neg (fun e : g = f => hk (h.symm.trans e))]
      · have hb : (g == k) = false := beq_eq_false_iff_ne.mpr h
        simp only [List.lookup, hb]
        exact ih
theorem ANv (f : Str) (v : V) : ∀ fs : List (Str × V), f ∈ (putF f v fs).map (·.1) ∧ ∀ g, g ∈ fs.map (·.1) → g ∈ (putF f v fs).map (·.1)
  | [] => ⟨by simp [putF], fun g h => by simp at h⟩
  | (k, x) :: r => by
    obtain ⟨i1, i2⟩ := ANv f v r
    rw [show putF f v ((k, x) :: r) = (if k = f then (k, v) :: r else (k, x) :: putF f v r) from rfl]
    by_cases hk : k = f
    · rw [if_pos hk]
      subst hk
      exact ⟨by simp, fun g h => by simpa using h⟩
    · rw [if_neg hk]
      refine ⟨?_, fun g h => ?_⟩
      · rw [List.map_cons]
        exact List.mem_cons_of_mem _ i1
      · rw [List.map_cons] at h ⊢
        rcases List.mem_cons.mp h with e | e
        · exact List.mem_cons.mpr (.inl e)
        · exact List.mem_cons_of_mem _ (i2 g e)
theorem AMd (f : Str) (v : V) : ∀ fs : List (Str × V), (putF f v fs).length ≤ fs.length + 1
  | [] => by simp [putF]
  | (k, x) :: r => by
    have ih := AMd f v r
    rw [show putF f v ((k, x) :: r) = (if k = f then (k, v) :: r else (k, x) :: putF f v r) from rfl]
    by_cases hk : k = f
    · rw [if_pos hk, List.length_cons, List.length_cons]; omega
    · rw [if_neg hk, List.length_cons, List.length_cons]; omega
theorem RelO.some_of {v : V} {o : Option Value} (r : RelO (some v) o) : ∃ u, o = some u ∧ RelV v u := by
  cases o with
  | none => exact (show False from r).elim
  | some u => exact ⟨u, rfl, r⟩
theorem AZc {v : V} {u : Value} (r : RelV v u) : PySem.W.handedIn u = true := by
  cases v with
  | non => cases (show u = Value.none from r); rfl
  | bl b => cases (show u = Value.bool b from r); rfl
  | int i => obtain ⟨t, e⟩ := (show ∃ t, u = Value.int i t from r); cases e; rfl
  | str x => obtain ⟨t, e⟩ := (show ∃ t, u = Value.str x t from r); cases e; rfl
  | byt b => obtain ⟨t, e⟩ := (show ∃ t, u = Value.bytes b t from r); cases e; rfl
  | flt b => obtain ⟨t, e⟩ := (show ∃ t, u = Value.float b t from r); cases e; rfl
  | ref a => cases (show u = Value.ref a from r); rfl
  | ty n => cases (show u = Value.type n from r); rfl
section
variable {P : Program} {w : World} {H H' : Hp} {h h' : Heap} {a C dx : Addr} {fs fs' : List (Str × V)}
theorem A1a (hok : HOk P w H h) (e : H a = some (.ins C dx fs)) : ∃ mA, ObjM h a dx C mA ∧ (∀ f, RelO (fs.lookup f) (mA f)) ∧ PySem.Within mA (fs.map (·.1)) ∧ fs.length ≤ 1000 ∧ H dx = some (.own a) := by
  obtain ⟨d, z, ne, ob, mA, n, r, q⟩ := (show ALd P w H h a (.ins C dx fs) from hok a _ e)
  exact ⟨mA, ⟨ob, n, ne⟩, r, q, z, d⟩
end
structure Cls (K : Frag) (C : Addr) : Prop where
  pg : PySem.W.plainGet K C Str.empty = true
  hd : PySem.W.hasDictIn K C = true
  po : PySem.W.plainOver K C = true
  sa : findIn K (.ref C) "__setattr__" = some (some (.builtin "object.__setattr__"))
theorem Cls.get {K : Frag} {C : Addr} (c : Cls K C) (f : Str) : PySem.W.plainGet K C f = true := c.pg
noncomputable def AFl (K : Frag) (C : Addr) (f : Str) : Prop := findIn K (.ref C) f = some none
theorem AFl.taker {K : Frag} {C : Addr} {f : Str} (n : AFl K C f) : PySem.W.takerIn K C f = some none := by
  unfold PySem.W.takerIn
  rw [show findIn K (.ref C) f = some none from n]
  rfl
section
variable {X : Cx} {pins : List (Addr × Obj)} {σ : St} {H : Hp} {s : Shared} {a C dx : Addr} {fs : List (Str × V)} {f : Str} {v : V} {A : Around} {E : Value → Shared → Prop}
theorem AV5 {b : Bool} {Q : Value → Shared → Prop} (I : Inv X pins σ H s) (e : H a = some (.ins C dx fs)) (c : Cls X.K C) (n : AFl X.K C f) (l : fs.lookup f = some v)
    (h : ∀ u s', Inv X pins σ H s' → RelV v u → Q u s') : wpAny (model X.prog X.w) A (getAttr (.ref a) f b) Q E s := by
  obtain ⟨mA, O, r, _, _, _⟩ := A1a I.hok e
  obtain ⟨u, hu, ru⟩ := RelO.some_of (v := v) (o := mA f) (by rw [← l]; exact r f)
  exact get_map I.kIn O (c.get f) c.hd n hu (AZc ru) (h u _ (I.tok _) ru)
theorem AVw {y : V} {u : Value} {Q : Unit → Shared → Prop} (I : Inv X pins σ H s) (e : H a = some (.ins C dx fs)) (c : Cls X.K C) (n : AFl X.K C f) (hl : fs.length < 1000) (ry : RelV y u)
    (h : ∀ s', Inv X pins σ (upd H a (.ins C dx (putF f y fs))) s' → Q () s') : wpAny (model X.prog X.w) A (setAttr (.ref a) f u) Q E s := by
  obtain ⟨mA, O, r, wi, _, ho⟩ := A1a I.hok e
  have hz : (fs.map (·.1)).length ≤ sizeLine := by rw [List.length_map, sizeLine_eq]; omega
  refine A6d I.kIn O c.sa c.po n.taker c.hd wi hz fun h' O' sb => h _ ?_
  have hd : ∃ o, h'.get? dx = some o := let ⟨o, _, _, e', _⟩ := O'.ns; ⟨o, e'⟩
  refine I.write (x := a) (e := dx) (by rw [e]; exact True.intro) (.inr ho) (fun b q hb z => (sb.2 b hb).trans z) hd ?_
  refine ⟨by rw [ABi O.ne]; exact ho, ?_, O.ne, O'.obj, _, O'.ns, fun g => ?_, fun g hg => ?_⟩
  · have := AMd f y fs; omega
  · show RelO ((putF f y fs).lookup g) (if g = f then some u else mA g)
    rw [AMl]
    by_cases q : g = f
    · rw [if_pos q, if_pos q]; exact ry
    · rw [if_neg q, if_neg q]; exact r g
  · by_cases q : g = f
    · rw [q]; exact (ANv f y fs).1
    · refine (ANv f y fs).2 g (wi g fun z => hg ?_)
      show (if g = f then some u else mA g) = none
      rw [if_neg q]; exact z
theorem Inv.made (I : Inv X pins σ H s) : Inv X pins σ (upd (upd H s.heap.objs.size (.own (s.heap.objs.size + 1))) (s.heap.objs.size + 1) (.ins C s.heap.objs.size []))
    { s with heap := (s.heap.push PySem.W.emptyDict).push (PySem.W.instObj C s.heap.objs.size) } := by
  have e1 : (s.heap.push PySem.W.emptyDict).get? s.heap.objs.size = some PySem.W.emptyDict := Heap.get?_push_size s.heap rfl
  have e2 : ((s.heap.push PySem.W.emptyDict).push (PySem.W.instObj C s.heap.objs.size)).get? (s.heap.objs.size + 1) = some (PySem.W.instObj C s.heap.objs.size) := by
    have := Heap.get?_push_size (s.heap.push PySem.W.emptyDict) (o := PySem.W.instObj C s.heap.objs.size) rfl
    rwa [Heap.size_push] at this
  have e3 : (s.heap.push PySem.W.emptyDict).Ns s.heap.objs.size (fun _ => none) := ⟨PySem.W.emptyDict, #[], _, e1, rfl, (fun e he => absurd he (by simp)), fun _ => rfl⟩
  have I1 := I.laid (a := s.heap.objs.size) (o := .own (s.heap.objs.size + 1)) (h' := s.heap.push PySem.W.emptyDict) (t' := s.toks) (fun b u q => Heap.get?_push_of_some _ q) (Nat.le_refl _) ⟨_, e1⟩
  refine I1.laid (a := s.heap.objs.size + 1) (o := .ins C s.heap.objs.size []) (t' := s.toks) (fun b u q => Heap.get?_push_of_some _ q) (Nat.le_of_eq (Heap.size_push _ _)) ?_
  have ne : s.heap.objs.size ≠ s.heap.objs.size + 1 := Nat.ne_of_lt (Nat.lt_succ_self _)
  refine ⟨by rw [ABi ne, AAv], Nat.zero_le _, ne, e2, fun _ => none, (Heap.Ns1.of_empty e3).at fun o q => Heap.get?_push_of_some _ q, fun _ => True.intro, fun y hy => absurd rfl hy⟩
theorem A8j {prog : Program} {w : World} {env : Env} {e : Expr} {f : Str} {pos : Pos} {s : Shared} {Q : Value → Shared → Prop} (hb : attributeBase e f env (eval e env) = eval e env)
    (h : wpAny (model prog w) A (eval e env) (fun o s₁ => wpAny (model prog w) A (getAttr o f true) Q E s₁) E s) : wpAny (model prog w) A (eval (.Attribute e f pos) env) Q E s :=
  Attribute_any_ h (by rw [arm_eval_Attribute, hb])
end
noncomputable def tFld (K : Frag) (ta : TE) (f : Str) : TE := fun σ H Q => ta σ H fun x H1 => ∃ a C dx fs v, x = .ref a ∧ H1 a = some (.ins C dx fs) ∧ Cls K C ∧ AFl K C f ∧ fs.lookup f = some v ∧ Q v H1
noncomputable def sFld (K : Frag) (ta tv : TE) (f : Str) : TS := fun D σ H => tv σ H fun y H1 => ta σ H1 fun x H2 => ∃ a C dx fs, x = .ref a ∧ H2 a = some (.ins C dx fs) ∧ Cls K C ∧ AFl K C f ∧ fs.length < 1000 ∧
  D.nx σ (upd H2 a (.ins C dx (putF f y fs)))
section
variable {X : Cx} {o e value : Expr} {f : Str} {pos pos' tpos : Pos} {ta tv : TE}
theorem AAo (he : PE X e ta) (hb : attributeBase e f X.env (eval e X.env) = eval e X.env) : PE X (.Attribute e f pos) (tFld X.K ta f) := by
  intro pins s σ H Q I h
  refine A8j hb (thn (he pins s σ H _ I h) fun u s1 ⟨x, H1, I1, rx, a, C, dx, fs, v, ex, ea, c, n, l, q⟩ => ?_)
  subst ex
  obtain rfl : u = Value.ref a := rx
  exact AV5 I1 ea c n l fun u' s2 I2 ru => ⟨v, H1, I2, ru, q⟩
theorem ACs (ha : PE X o ta) (hv : PE X value tv) (hs : swapsWith value (some (.Attribute o f pos')) pos.line X.env = pure false) : PS X (.Assign [.Attribute o f pos'] value pos) (sFld X.K ta tv f) := by
  intro pins s σ H D I h
  refine plainObj_wpAny_Assign_Attribute (thn (hv pins s σ H _ I h) fun u s1 ⟨y, H1, I1, ry, q⟩ => thn (ha pins s1 σ H1 _ I1 q) fun ov s2 ⟨x, H2, I2, rx, a, C, dx, fs, ex, ea, c, n, l, q2⟩ => ?_) hs
  subst ex
  obtain rfl : ov = Value.ref a := rx
  exact AVw I2 ea c n l ry fun s3 I3 => ⟨σ, _, I3, q2⟩
end
section
variable {X : Cx} {pins : List (Addr × Obj)} {σ : St} {H : Hp} {s : Shared} {A : Around} {E : Value → Shared → Prop} {Q : Value → Shared → Prop} {c : Value} {b : Bool}
end
end L2
namespace L2
open PySem PySem.Spec PyProof.Rows
structure Room (k : Nat) (A : Around) : Prop where
  hd : A.handled = none
  dp : A.depth + 3 * k + 5 < recursionLimit
  un : A.units + 16 * k + 200 < cLine
theorem Room.mono {j k : Nat} {A : Around} (r : Room k A) (h : j ≤ k) : Room j A := ⟨r.hd, by have := r.dp; omega, by have := r.un; omega⟩
theorem Room.deeper {k : Nat} {A : Around} (r : Room (k + 1) A) (env : Env) : Room k (A.deeper env) :=
  ⟨r.hd, by have := r.dp; show A.depth + 1 + 3 * k + 5 < _; omega, by have := r.un; show A.units + 3 + 16 * k + 200 < _; omega⟩
theorem AWv {A : Around} {C : Addr} {us : List Value} {kw : List (Str × Value)} : (A.under (.builtin "type.__call__" ⟨.ref C :: us, kw⟩)).depth = A.depth + 1 := by
  first | rfl | simp [Around.under, Code.weight, Code.isCreation, Code.isGuard, Code.isCaller, Code.frames, Code.isFrame, guardIds]
theorem AWx {A : Around} {C : Addr} {us : List Value} {kw : List (Str × Value)} : (A.under (.builtin "type.__call__" ⟨.ref C :: us, kw⟩)).units = A.units + 1 := by
  first | rfl | simp [Around.under, Code.cUnits, Code.frames, Code.isFrame]
theorem Room.make {k : Nat} {A : Around} (r : Room (k + 1) A) (C : Addr) (us : List Value) (kw : List (Str × Value)) : Room k (A.under (.builtin "type.__call__" ⟨.ref C :: us, kw⟩)) :=
  ⟨r.hd, by have := r.dp; rw [AWv]; omega, by have := r.un; rw [AWx]; omega⟩
theorem Room.depth {k : Nat} {A : Around} (r : Room k A) : A.depth < recursionLimit := by have := r.dp; omega
theorem Room.units {k : Nat} {A : Around} (r : Room k A) : A.units + 64 < cLine := by have := r.un; omega
noncomputable def tNil : TA := fun _ H Q => Q [] H
noncomputable def ABx (ta : TE) (tr : TA) : TA := fun σ H Q => ta σ H fun x H1 => tr σ H1 fun xs H2 => Q (x :: xs) H2
section
variable {X : Cx} {e : Expr} {es : List Expr} {te : TE} {t : TA} {pos : Pos}
theorem AAi : PA X [] tNil := fun _ _ _ _ H Q I h => Calls.spliced_nil ⟨[], H, I, .nil, h⟩
theorem AAa (ha : PE X e te) (hr : PA X es t) (hs : starEach (e :: es) X.env = (false, eval e X.env) :: starEach es X.env := by rfl) : PA X (e :: es) (ABx te t) := by
  intro pos pins s σ H Q I h
  rw [hs]
  show wpAny _ _ (spliced ((false, eval e X.env) :: backTo pos (starEach es X.env))) _ _ s
  refine Calls.spliced_cons (thn (ha pins s σ H _ I h) fun u s1 ⟨x, H1, I1, r1, q1⟩ => ?_)
  exact thn (hr pos pins s1 σ H1 _ I1 q1) fun us s2 ⟨xs, H2, I2, r2, q2⟩ => ⟨x :: xs, H2, I2, .cons r1 r2, q2⟩
noncomputable def tTup (t : TA) : TE := fun σ H Q => t σ H fun xs H1 => xs.length ≤ sizeLine ∧ ∀ p, H1 p = none → Q (.ref p) (upd H1 p (.tup xs))
noncomputable def tLst (t : TA) : TE := fun σ H Q => t σ H fun xs H1 => xs.length ≤ sizeLine ∧ ∀ p, H1 p = none → Q (.ref p) (upd H1 p (.lst xs))
theorem ADv {x1} (h : PA X es t) : PE X (.Tuple es x1 pos) (tTup t) := by
  intro pins s σ H Q I hq
  refine wpAny_Tuple_spliced (thn (h pos pins s σ H _ I hq) fun us s1 ⟨xs, H1, I1, r, z, q⟩ => ⟨by rw [← r.length]; exact z, ?_⟩)
  have hf : H1 s1.heap.objs.size = none := I1.hok.fresh (Nat.le_refl _)
  refine ⟨.ref s1.heap.objs.size, upd H1 s1.heap.objs.size (.tup xs), I1.laid (t' := s1.toks) (fun b u e => Heap.get?_push_of_some _ e) (Nat.le_refl _) ?_, rfl, q _ hf⟩
  exact ⟨z, us, r, ⟨_, Heap.get?_push_size _ rfl, rfl, _, rfl⟩⟩
theorem ASo (h : PA X es t) : PE X (.List es pos) (tLst t) := by
  intro pins s σ H Q I hq
  refine wpAny_List_spliced (thn (h pos pins s σ H _ I hq) fun us s1 ⟨xs, H1, I1, r, z, q⟩ => ⟨by rw [← r.length]; exact z, ?_⟩)
  have hf : H1 s1.heap.objs.size = none := I1.hok.fresh (Nat.le_refl _)
  refine ⟨.ref s1.heap.objs.size, upd H1 s1.heap.objs.size (.lst xs), I1.laid (t' := s1.toks) (fun b u e => Heap.get?_push_of_some _ e) (Nat.le_refl _) ?_, rfl, q _ hf⟩
  exact ⟨z, us, 0, r, Heap.get?_push_size _ rfl⟩
end
noncomputable abbrev Sp := List V → Hp → VK → XK → Prop
noncomputable abbrev CXT := List Env → Hp → Shared → XK → Value → Shared → Prop
structure Env0 (P : Program) (w : World) (K : Frag) (mg : Str → Option Value) (base : Heap) (A : Around) (outer : List Env) (s : Shared) (H : Hp) : Prop where
  frames : A.frames = some outer
  mod : Mod K mg base
  bs : ∀ b o, base.get? b = some o → s.heap.get? b = some o ∧ H b = none
  bsz : base.objs.size ≤ s.heap.objs.size
  funs : s.heap.FunFrames base outer
  frf : ∀ b ∈ frs outer, H b = none
  hok : HOk P w H s.heap
  bare : AllBare s.gens
noncomputable def CE (outer : List Env) (P : Program) (w : World) (H : Hp) (s : Shared) (Q : VK) (u : Value) (s' : Shared) : Prop :=
  ∃ v H', s'.os = s.os ∧ AllBare s'.gens ∧ Un (frs outer) [] H H' s.heap s'.heap ∧ HOk P w H' s'.heap ∧ RelV v u ∧ Q v H'
noncomputable def CR (CX : CXT) (outer : List Env) (P : Program) (w : World) (H : Hp) (s : Shared) (Q : VK) (E : XK) (r : Result) (s' : Shared) : Prop :=
  match r with
  | .ok (.ret u) => CE outer P w H s Q u s'
  | .ok _ => False
  | .error e => CX outer H s E e s'
structure FnOk (P : Program) (w : World) (K : Frag) (mg : Str → Option Value) (base : Heap) (CX : CXT) (k : Nat) (f : Addr) (fd : FuncData) (ps : List Str) (sp : Sp) : Prop where
  len : ∀ vs H Q E, sp vs H Q E → vs.length = ps.length
  run : ∀ (A : Around) (outer : List Env) (s : Shared) (H : Hp) (args : Args) (us : List Value) (vs : List V) (Q : VK) (E : XK), Room k A → Env0 P w K mg base A outer s H → BindsTo s fd args (ps.zip us) → Vals vs us → sp vs H Q E →
    codeAny (model P w) A (.call (.ref f) args) (CR CX outer P w H s Q E) s
theorem FnOk.mono {P : Program} {w : World} {K : Frag} {mg : Str → Option Value} {base : Heap} {CX : CXT} {j k : Nat} {f : Addr} {fd : FuncData} {ps : List Str} {sp : Sp} (F : FnOk P w K mg base CX j f fd ps sp) (h : j ≤ k) :
    FnOk P w K mg base CX k f fd ps sp := ⟨F.len, fun A outer s H args us vs Q E hr => F.run A outer s H args us vs Q E (hr.mono h)⟩
theorem Env0.make {P : Program} {w : World} {K : Frag} {mg : Str → Option Value} {base : Heap} {A : Around} {outer : List Env} {s : Shared} {H : Hp} (e : Env0 P w K mg base A outer s H) (C : Addr) (us : List Value) (kw : List (Str × Value)) :
    Env0 P w K mg base (A.under (.builtin "type.__call__" ⟨.ref C :: us, kw⟩)) outer s H := ⟨by first | exact e.frames | (simpa [Around.under, Code.envs, Code.isFrame, pushEnvs] using e.frames), e.mod, e.bs, e.bsz, e.funs, e.frf, e.hok, e.bare⟩
section
variable {X : Cx} {pins : List (Addr × Obj)} {σ : St} {H : Hp} {s s' : Shared}
theorem Inv.env0 (I : Inv X pins σ H s) : Env0 X.prog X.w X.K X.mg X.base X.A X.stack s H :=
  ⟨I.ok.frames, I.ok.mod, I.bs, Nat.le_trans I.ok.bsz I.sz, I.stack, I.stkFree, I.hok, I.bare⟩
theorem Inv.after {Q : VK} {u : Value} (I : Inv X pins σ H s) (h : CE X.stack X.prog X.w H s Q u s') : EP X pins σ Q u s' := by
  obtain ⟨v, H', os, bare, un, hok, r, q⟩ := h
  obtain ⟨hh, g, d, t, os'⟩ := s'
  obtain rfl : os' = s.os := os
  exact ⟨v, H', I.call (h' := hh) (g' := g) (d' := d) (t' := t) (ch := []) un hok bare (fun b z => absurd z (by simp)), r, q⟩
end
noncomputable def tCall (sp : Sp) (dvs : List V) (E : XK) (t : TA) : TE := fun σ H Q => t σ H fun vs H1 => sp (vs ++ dvs) H1 Q E
noncomputable def BEh (C : Addr) (sp : Sp) (dvs : List V) (E : XK) (t : TA) : TE := fun σ H Q => t σ H fun vs H1 => ∀ x dx, H1 x = none → H1 dx = none → dx ≠ x →
  sp (.ref x :: (vs ++ dvs)) (upd (upd H1 dx (.own x)) x (.ins C dx [])) (fun v H2 => v = .non ∧ Q (.ref x) H2) E
noncomputable def Binds (K : Frag) (fd : FuncData) (ps : List Str) (ds : List Value) : Prop :=
  ∀ (s : Shared) (us : List Value), K.In s.heap → (us ++ ds).length = ps.length → BindsTo s fd ⟨us, []⟩ (ps.zip (us ++ ds))
theorem Binds.all {K : Frag} {fd : FuncData} {ps : List Str} (h : ∀ us : List Value, us.length = ps.length → bindArgs fd ⟨us, []⟩ = pure (ps.zip us)) : Binds K fd ps [] := fun s us _ hl => by
  rw [List.append_nil] at hl ⊢
  exact .of_eq (h us hl)
noncomputable def Passes (CX : CXT) (X : Cx) (E : XK) : Prop := ∀ (pins : List (Addr × Obj)) (σ : St) (H : Hp) (s : Shared) (e : Value) (s' : Shared), Inv X pins σ H s → CX X.stack H s E e s' → X.xe e s'
section
variable {X : Cx} {CX : CXT} {k : Nat} {f C : Addr} {fd : FuncData} {ps : List Str} {sp : Sp} {dvs : List V} {ds : List Value} {E : XK} {x m : Str} {p pos apos : Pos} {e o : Expr} {es : List Expr} {ta : TE} {t : TA}
theorem A9d {pins : List (Addr × Obj)} {σ : St} {H : Hp} {s : Shared} {Q : VK} {us : List Value} {vs : List V} (F : FnOk X.prog X.w X.K X.mg X.base CX k f fd ps sp) (hr : Room k X.A) (hb : Binds X.K fd ps ds) (hd : Vals dvs ds) (hx : Passes CX X E)
    (I : Inv X pins σ H s) (r : Vals vs us) (h : sp (vs ++ dvs) H Q E) : wpAny (model X.prog X.w) X.A (call (.ref f) us) (EP X pins σ Q) X.xe s := by
  have r2 : Vals (vs ++ dvs) (us ++ ds) := r.append hd
  have hl : (us ++ ds).length = ps.length := by rw [← r2.length]; exact F.len _ _ _ _ h
  refine wpAny_call (codeAny_mono (F.run X.A X.stack s H ⟨us, []⟩ (us ++ ds) (vs ++ dvs) Q E hr I.env0 (hb s us I.kIn hl) r2 h) fun r s' hq => ?_)
  cases r with
  | error e => exact hx pins σ H s e s' I hq
  | ok fl =>
    cases fl with
    | ret u => exact I.after hq
    | next => exact False.elim hq
    | brk => exact False.elim hq
    | cont => exact False.elim hq
theorem A7f (F : FnOk X.prog X.w X.K X.mg X.base CX k f fd ps sp) (hr : Room k X.A) (hg : Gl X x) (hm : X.mg x = some (.ref f)) (hk : keepIn X.K (.ref f) = true) (hb : Binds X.K fd ps ds) (hd : Vals dvs ds) (hx : Passes CX X E)
    (ha : PA X (e :: es) t) (hdb : (x == ("__debug__" : Str)) = false := by decide) (he : starEach (e :: es) X.env = (false, eval e X.env) :: starEach es X.env := by rfl) (hpl : (backTo pos (starEach es X.env)).any (·.1) = false := by rfl) :
    PE X (.Call (.Name x p) (e :: es) [] pos) (tCall sp dvs E t) := by
  intro pins s σ H Q I h
  refine wpAny_Call_Name_kw (ATz I hg hm ?_ hdb)
  refine PySem.W.callWith_K (h₀ := X.base) I.ok.mod.kin hk (thn (ha pos pins s σ H _ I h) fun us s1 ⟨vs, H1, I1, r, q⟩ => ⟨I1.kIn, ?_⟩) he hpl
  exact A9d F hr hb hd hx I1 r q
structure Mk (K : Frag) (C f : Addr) : Prop where
  makes : PySem.W.makesIn K C = true
  init : findIn K (.ref C) "__init__" = some (some (.ref f))
  fn : PySem.W.isFn K (.ref f) = true
  kp : keepIn K (.ref C) = true
theorem A44 {pins : List (Addr × Obj)} {σ : St} {H : Hp} {s : Shared} {Q : VK} {us : List Value} {vs : List V} (M : Mk X.K C f) (F : FnOk X.prog X.w X.K X.mg X.base CX k f fd ps sp) (hr : Room (k + 1) X.A) (hb : Binds X.K fd ps ds) (hd : Vals dvs ds)
    (hx : Passes CX X E) (I : Inv X pins σ H s) (r : Vals vs us)
    (h : ∀ x dx, H x = none → H dx = none → dx ≠ x → sp (.ref x :: (vs ++ dvs)) (upd (upd H dx (.own x)) x (.ins C dx [])) (fun v H2 => v = .non ∧ Q (.ref x) H2) E) :
    wpAny (model X.prog X.w) X.A (call (.ref C) us) (EP X pins σ Q) X.xe s := by
  have hq := h (s.heap.objs.size + 1) s.heap.objs.size (I.hok.fresh (Nat.le_succ _)) (I.hok.fresh (Nat.le_refl _)) (Nat.ne_of_lt (Nat.lt_succ_self _))
  have I2 := Inv.made (C := C) I
  have r2 : Vals (V.ref (s.heap.objs.size + 1) :: (vs ++ dvs)) (Value.ref (s.heap.objs.size + 1) :: (us ++ ds)) := .cons rfl (r.append hd)
  have hl : (Value.ref (s.heap.objs.size + 1) :: us ++ ds).length = ps.length := by
    have e := r2.length
    rw [F.len _ _ _ _ hq] at e
    exact e.symm
  refine wpAny_call (A3o (f := f) I.kIn M.makes M.init (beq_iff_eq.mp M.fn) (codeAny_mono (F.run _ X.stack _ _ ⟨Value.ref (s.heap.objs.size + 1) :: us, []⟩ (Value.ref (s.heap.objs.size + 1) :: (us ++ ds)) _ _ E (hr.make C us [])
    (I2.env0.make C us []) (hb _ (Value.ref (s.heap.objs.size + 1) :: us) I2.kIn hl) r2 hq) fun r s' hq' => ?_))
  cases r with
  | error e => exact hx pins σ _ _ e s' I2 hq'
  | ok fl =>
    cases fl with
    | ret u =>
      obtain ⟨v, H', I3, rv, ev, q3⟩ := I2.after hq'
      subst ev
      exact ⟨rv, ⟨V.ref (s.heap.objs.size + 1), H', I3, rfl, q3⟩⟩
    | next => exact False.elim hq'
    | brk => exact False.elim hq'
    | cont => exact False.elim hq'
theorem A8e (M : Mk X.K C f) (F : FnOk X.prog X.w X.K X.mg X.base CX k f fd ps sp) (hr : Room (k + 1) X.A) (hg : Gl X x) (hm : X.mg x = some (.ref C)) (hb : Binds X.K fd ps ds) (hd : Vals dvs ds) (hx : Passes CX X E)
    (ha : PA X (e :: es) t) (hdb : (x == ("__debug__" : Str)) = false := by decide) (he : starEach (e :: es) X.env = (false, eval e X.env) :: starEach es X.env := by rfl) (hpl : (backTo pos (starEach es X.env)).any (·.1) = false := by rfl) :
    PE X (.Call (.Name x p) (e :: es) [] pos) (BEh C sp dvs E t) := by
  intro pins s σ H Q I h
  refine wpAny_Call_Name_kw (ATz I hg hm ?_ hdb)
  refine PySem.W.callWith_K (h₀ := X.base) I.ok.mod.kin M.kp (thn (ha pos pins s σ H _ I h) fun us s1 ⟨vs, H1, I1, r, q⟩ => ⟨I1.kIn, ?_⟩) he hpl
  exact A44 M F hr hb hd hx I1 r q
end
section
variable {X : Cx} {CX : CXT} {k : Nat} {f C : Addr} {fd : FuncData} {ps ks : List Str} {sp : Sp} {E : XK} {x m : Str} {p pos apos kpos : Pos} {e o : Expr} {es : List Expr} {kws : List Keyword} {te ta : TE} {t tk : TA} {nm : Option Str}
variable {g : List Value → List Value → List Value} {gV : List V → List V → List V}
end
structure AAh (N P : List Str) (sc : Scope) : Prop where
  kind : sc.kind = .function
  co : sc.isCoroutine = false
  gen : sc.isGenerator = false
  nd : N.Nodup
  pre : N.take P.length = P
  par : ∀ x ∈ P, sc.names.lookup x = some .local ∨ sc.names.lookup x = some .cell
  nofree : ∀ y ∈ sc.names, y.2 ≠ .free
theorem ARo {kindOf : Str → Option NameKind} {x : Str} : ∀ {binds : List (Str × Value)} {m : Str → Option Value}, (∀ v, (x, v) ∉ binds) → bindL kindOf binds m x = m x
  | [], _, _ => rfl
  | (n, v) :: r, m, h => by
    unfold bindL
    rw [ARo fun w hw => h w (List.mem_cons_of_mem _ hw)]
    split
    · have : x ≠ n := by rintro rfl; exact h v List.mem_cons_self
      simp [this]
    · rfl
theorem ARi {kindOf : Str → Option NameKind} {x : Str} : ∀ {binds : List (Str × Value)} {m : Str → Option Value}, (∀ v, (x, v) ∉ binds) → bindC kindOf binds m x = m x
  | [], _, _ => rfl
  | (n, v) :: r, m, h => by
    unfold bindC
    rw [ARi fun w hw => h w (List.mem_cons_of_mem _ hw)]
    split
    · rfl
    · have : x ≠ n := by rintro rfl; exact h v List.mem_cons_self
      simp [this]
theorem ARy {kindOf : Str → Option NameKind} {x : Str} {v : Value} : ∀ {P : List Str} {vs : List Value} {i : Nat} {m : Str → Option Value}, P.Nodup → P[i]? = some x → vs[i]? = some v → kindOf x = some .local →
    bindL kindOf (P.zip vs) m x = some v
  | [], _, _, _, _, h, _, _ => by simp at h
  | _ :: _, [], _, _, _, _, h, _ => by simp at h
  | p :: P, w :: vs, 0, m, nd, h1, h2, hk => by
    simp at h1 h2; subst h1; subst h2
    show bindL kindOf ((p, w) :: P.zip vs) m p = _
    unfold bindL
    rw [ARo fun v hv => (List.nodup_cons.mp nd).1 (List.of_mem_zip hv).1, if_pos hk]
    simp
  | p :: P, w :: vs, i + 1, m, nd, h1, h2, hk => by
    show bindL kindOf ((p, w) :: P.zip vs) m x = _
    unfold bindL
    exact ARy (i := i) (List.nodup_cons.mp nd).2 (by simpa using h1) (by simpa using h2) hk
theorem ARp {kindOf : Str → Option NameKind} {x : Str} {v : Value} : ∀ {P : List Str} {vs : List Value} {i : Nat} {m : Str → Option Value}, P.Nodup → P[i]? = some x → vs[i]? = some v → kindOf x ≠ some .local →
    bindC kindOf (P.zip vs) m x = some v
  | [], _, _, _, _, h, _, _ => by simp at h
  | _ :: _, [], _, _, _, _, h, _ => by simp at h
  | p :: P, w :: vs, 0, m, nd, h1, h2, hk => by
    simp at h1 h2; subst h1; subst h2
    show bindC kindOf ((p, w) :: P.zip vs) m p = _
    unfold bindC
    rw [ARi fun v hv => (List.nodup_cons.mp nd).1 (List.of_mem_zip hv).1, if_neg hk]
    simp
  | p :: P, w :: vs, i + 1, m, nd, h1, h2, hk => by
    show bindC kindOf ((p, w) :: P.zip vs) m x = _
    unfold bindC
    exact ARp (i := i) (List.nodup_cons.mp nd).2 (by simpa using h1) (by simpa using h2) hk
noncomputable def start (N : List Str) (vs : List V) : St := vs.map some ++ List.replicate (N.length - vs.length) none
noncomputable def cxOf (CX : CXT) (P : Program) (w : World) (K : Frag) (mg : Str → Option Value) (base : Heap) (N : List Str) (qual : Str) (scope : Scope) (f : Addr) (cd : Value) (A : Around) (outer : List Env) (s : Shared) (H : Hp) (E : XK) : Cx where
  prog := P
  w := w
  K := K
  mg := mg
  base := base
  A := A.deeper (envOfC qual scope s.heap.objs.size f cd)
  N := N
  s_0 := s
  H_0 := H
  env := envOfC qual scope s.heap.objs.size f cd
  outer := outer
  stack := envOfC qual scope s.heap.objs.size f cd :: outer
  ex := []
  calm := true
  fn := fun _ => true
  pn := []
  xe := fun e s' => wpAny (model P w) (A.deeper (envOfC qual scope s.heap.objs.size f cd)) (leaving (envOfC qual scope s.heap.objs.size f cd) e) (fun _ s'' => CX outer H s E e s'') (fun e' s'' => CX outer H s E e' s'') s'
theorem ATg {sc : Scope} {n : Nat} {x : Str} (h : sc.names.lookup x = some .cell) : ∃ c, (cellsFrom n sc.names []).lookup x = some c := by
  have q := PySem.W.cellsFrom_some sc.names n [] (.inl h)
  exact Option.isSome_iff_exists.mp q
theorem AXl {CX : CXT} {P : Program} {w : World} {K : Frag} {mg : Str → Option Value} {base : Heap} {N ps : List Str} {qual : Str} {scope : Scope} {f : Addr} {cd : Value} {A : Around} {outer : List Env} {s s1 : Shared} {H : Hp} {E : XK} {us : List Value} {vs : List V}
    (S : AAh N ps scope) (hd : A.handled = none) (e0 : Env0 P w K mg base A outer s H) (hl : vs.length = ps.length) (r : Vals vs us)
    (x : InCallC s s.heap.objs.size (bindL (envOfC qual scope s.heap.objs.size f cd).kindOf (ps.zip us) fun _ => none) (cellsFrom (s.heap.objs.size + 1) scope.names []) (bindC (envOfC qual scope s.heap.objs.size f cd).kindOf (ps.zip us) fun _ => none) s1) :
    Inv (cxOf CX P w K mg base N qual scope f cd A outer s H E) [] (start N vs) H s1 := by
  have hpl : ps.length ≤ N.length := by have := congrArg List.length S.pre; rw [List.length_take] at this; omega
  obtain ⟨h1, tk, rfl, hk⟩ := x.done
  have noA : ∀ b : Addr, b ∉ (cxOf CX P w K mg base N qual scope f cd A outer s H E).ex := fun b z => absurd (show b ∈ ([] : List Addr) from z) (by simp)
  refine ⟨⟨e0.mod, S.kind, rfl, rfl, Nat.le_refl _, fun y z c h1 h2 => ?_, fun y hy => ?_, fun y c _ h => ?_, fun _ => hd, Around.frames_deeper e0.frames, .inr ⟨rfl, rfl⟩, fun b z => absurd z (noA b), e0.bs, e0.bsz, fun b _ _ => noA b, fun b z => absurd z (noA b), e0.funs, e0.frf⟩,
    rfl, e0.bare, Un.kept hk, ⟨_, x.toInCall.ns, fun i y v h1 h2 h3 => ?_⟩, fun y c h => ⟨_, x.cell y c h⟩, e0.hok.fresh (Nat.le_refl _), fun y c h => ?_, fun p hp => absurd (show p ∈ ([] : List (Addr × Obj)) from hp) (by simp), e0.hok.kept hk, ?_⟩
  · exact name_of_addr x.apart (PySem.mem_of_lookup h1) (PySem.mem_of_lookup h2)
  · have hy : scope.names.lookup y = some .cell ∨ scope.names.lookup y = some .free := hy
    rcases hy with hy | hy
    · exact ATg hy
    · exact absurd rfl (S.nofree _ (PySem.mem_of_lookup hy))
  · exact Nat.le_of_lt (x.above y c (PySem.mem_of_lookup h))
  · have hi : i < vs.length := by
      unfold start at h2
      by_cases hi : i < vs.length
      · exact hi
      · rw [List.getElem?_append_right (by simpa using hi)] at h2
        rw [List.getElem?_replicate] at h2
        split at h2 <;> cases h2
    have ha : vs[i]? = some v := by
      unfold start at h2
      rw [List.getElem?_append_left (by simpa using hi), List.getElem?_map] at h2
      cases e : vs[i]? with
      | none => rw [e] at h2; cases h2
      | some a => rw [e] at h2; cases h2; rfl
    obtain ⟨u, hu, rv⟩ := r.get ha
    have hp : ps[i]? = some y := by
      rw [← S.pre, List.getElem?_take_of_lt (by omega)]; exact h1
    have ndP : ps.Nodup := by rw [← S.pre]; exact S.nd.sublist (List.take_sublist _ _)
    refine ⟨u, rv, ?_⟩
    rcases S.par y (List.mem_of_getElem? hp) with k | k
    · exact .inl ⟨k, ARy ndP hp hu k⟩
    · obtain ⟨c, e⟩ := ATg (n := s.heap.objs.size + 1) k
      refine .inr ⟨.inl k, c, e, ?_⟩
      have q := x.cell y c e
      rw [ARp ndP hp hu (by show scope.names.lookup y ≠ _; rw [k]; decide)] at q
      exact q
  · exact e0.hok.fresh (Nat.le_of_lt (x.above y c (PySem.mem_of_lookup h)))
  · unfold start
    show _ = N.length
    rw [List.length_append, List.length_map, List.length_replicate]
    omega
theorem fn_of {CX : CXT} {P : Program} {w : World} {K : Frag} {mg : Str → Option Value} {base : Heap} {k : Nat} {f : Addr} {name qual : Str} {params : Arguments} {body : List Stmt} {scope : Scope} {dV kV doc pm cdv ct oc : Value} {an od : Option Addr}
    {osl : Array (Option Value)} {N ps : List Str} {sp : Sp} (lk : K.lookup f = some ⟨oc, od, .func (fnOf name qual params body scope dV kV doc pm an cdv ct), osl⟩) (hcd : codeIn K cdv qual = true) (S : AAh N ps scope)
    (len : ∀ vs H Q E, sp vs H Q E → vs.length = ps.length)
    (hbody : ∀ (A : Around) (outer : List Env) (s : Shared) (H : Hp) (vs : List V) (Q : VK) (E : XK), Room k (A.deeper (envOfC qual scope s.heap.objs.size f cdv)) → sp vs H Q E →
      ∃ t, PSs (cxOf CX P w K mg base N qual scope f cdv A outer s H E) body t ∧ t { nx := fun _ H' => Q .non H', rt := Q } (start N vs) H) :
    FnOk P w K mg base CX (k + 1) f (fnOf name qual params body scope dV kV doc pm an cdv ct) ps sp := by
  refine ⟨len, fun A outer s H args us vs Q E hr e0 hb r hsp => ?_⟩
  have hl := len _ _ _ _ hsp
  have KX : K.In s.heap := e0.mod.kin.keeps fun b o e => (e0.bs b o e).1
  have lim : s.heap.NoLimit := e0.mod.nolimit.keeps fun b o e => (e0.bs b o e).1
  have hkind : ∀ y ∈ ps.zip us, scope.names.lookup y.1 = some .local ∨ (scope.names.lookup y.1 = some .cell ∧ ((cellsFrom (s.heap.objs.size + 1) scope.names []).lookup y.1).isSome = true) := fun ⟨n, v⟩ hy => by
    rcases S.par n (List.of_mem_zip hy).1 with q | q
    · exact .inl q
    · exact .inr ⟨q, PySem.W.cellsFrom_some _ _ _ (.inl q)⟩
  refine codeAny_call_function hr.depth (KX _ _ lk) rfl S.co S.gen rfl (PySem.W.codeRec_of KX hcd) (hb _ _ _ _ ?_)
  refine wpAny_newFunctionEnv_cells S.kind hkind fun env he s1 x => ?_
  subst he
  refine ⟨lim.keeps x.toInCall.keep, codeAny_func ?_⟩
  obtain ⟨t, ht, hq⟩ := hbody A outer s H vs Q E (hr.deeper _) hsp
  have I : Inv (cxOf CX P w K mg base N qual scope f cdv A outer s H E) [] (start N vs) H s1 := AXl S hr.hd e0 hl r x
  refine wpAny_mono (ht [] s1 (start N vs) H _ I hq) (fun fl s' hs => ?_) fun e s' hs => hs
  have fin : ∀ {σ' : St} {H' : Hp} {v : V} {u : Value}, Inv (cxOf CX P w K mg base N qual scope f cdv A outer s H E) [] σ' H' s' → RelV v u → Q v H' → CE outer P w H s Q u s' :=
    fun {σ' H' v u} J rv q => ⟨v, H', J.os, J.bare, J.base, J.hok, rv, q⟩
  cases fl with
  | ret u =>
    obtain ⟨v, σ', H', J, rv, q⟩ := hs
    exact fin J rv q
  | next =>
    obtain ⟨σ', H', J, q⟩ := hs
    exact fin (v := V.non) (u := Value.none) J rfl q
  | brk =>
    obtain ⟨_, _, _, q⟩ := hs
    exact False.elim q
  | cont =>
    obtain ⟨_, _, _, q⟩ := hs
    exact False.elim q
end L2
namespace L2
open PySem PySem.Spec PyProof.Rows
section
variable {X : Cx} {x : Str} {p pos : Pos} {e : Expr} {es : List Expr} {t : TA} {id T : String} {r : List V → Hp → VK → Prop}
noncomputable def tCB (r : List V → Hp → VK → Prop) (t : TA) : TE := fun σ H Q => t σ H fun vs H1 => r vs H1 Q
theorem AH2 (hc : A62 X (.builtin id) r) (hg : Gl X x) (hm : X.mg x = none) (hv : bootBuiltins x = some (.builtin id)) (ha : PA X (e :: es) t) (hn : x ≠ "__name__" := by decide) (hdb : (x == ("__debug__" : Str)) = false := by decide)
    (he : starEach (e :: es) X.env = (false, eval e X.env) :: starEach es X.env := by rfl) (hpl : (backTo pos (starEach es X.env)).any (·.1) = false := by rfl) : PE X (.Call (.Name x p) (e :: es) [] pos) (tCB r t) := by
  intro pins s σ H Q I h
  refine wpAny_Call_Name_kw (AWe I hg hm hv ?_ hn hdb)
  exact PyProof.Rows.callWith_builtin1 (thn (ha pos pins s σ H _ I h) fun us s1 ⟨vs, H1, I1, r1, q1⟩ => hc pins s1 σ H1 vs us Q I1 r1 q1) he hpl
theorem AY7 (hc : A62 X (.type T) r) (hg : Gl X x) (hm : X.mg x = none) (hv : bootBuiltins x = some (.type T)) (ha : PA X (e :: es) t) (hn : x ≠ "__name__" := by decide) (hdb : (x == ("__debug__" : Str)) = false := by decide)
    (he : starEach (e :: es) X.env = (false, eval e X.env) :: starEach es X.env := by rfl) (hpl : (backTo pos (starEach es X.env)).any (·.1) = false := by rfl) : PE X (.Call (.Name x p) (e :: es) [] pos) (tCB r t) := by
  intro pins s σ H Q I h
  refine wpAny_Call_Name_kw (AWe I hg hm hv ?_ hn hdb)
  exact PyProof.Rows.callWith_type1 (thn (ha pos pins s σ H _ I h) fun us s1 ⟨vs, H1, I1, r1, q1⟩ => hc pins s1 σ H1 vs us Q I1 r1 q1) he hpl
end
end L2
namespace HT
open PySem PyProof.Rows
section
open PySem.SeqAt
open PySem.AutoSeq1 (wpAny_loadPart')
open PySem.MeetsSeq PySem.MeetsSeq2 PySem.MeetsSeq3
end
section
variable {prog : Program} {w : World} {A : Around} {E : Value → Shared → Prop} {s : Shared}
noncomputable def sIx (n d : Nat) : Option Int → Nat
  | none => d
  | some v => if v < 0 then (v + (n : Int)).toNat else min v.toNat n
end
end HT
namespace L2
open PySem PySem.Spec PyProof.Rows
noncomputable abbrev TO := St → Hp → (Option Int → Hp → Prop) → Prop
noncomputable def PO (X : Cx) (e : Option Expr) (t : TO) : Prop :=
  ∀ (pins : List (Addr × Obj)) (s : Shared) (σ : St) (H : Hp) (Q : Option Int → Hp → Prop), Inv X pins σ H s → t σ H Q →
    wpAny (model X.prog X.w) X.A (evalPart e X.env) (fun u s' => ∃ o H', Inv X pins σ H' s' ∧ IsPart u o ∧ Q o H') X.xe s
noncomputable def A1v : TO := fun _ H Q => Q none H
noncomputable def BEs (t : TE) : TO := fun σ H Q => t σ H fun x H1 => ∃ i, x = .int i ∧ Q (some i) H1
section
variable {X : Cx} {e : Expr} {te : TE} {lo hi : Option Expr} {tl th : TO} {pos p2 : Pos}
theorem A6b : PO X none A1v := by
  intro pins s σ H Q I h
  rw [evalPart_none]
  exact wpAny_pure ⟨none, H, I, .none, h⟩
theorem A8y (h : PE X e te) : PO X (some e) (BEs te) := by
  intro pins s σ H Q I hw
  rw [evalPart_some]
  refine thn (h pins s σ H _ I hw) fun u s1 ⟨x, H1, I1, r1, q1⟩ => ?_
  obtain ⟨i, rfl, q⟩ := q1
  obtain ⟨t, rfl⟩ := r1
  exact ⟨some i, H1, I1, .int i t, q⟩
noncomputable def SlR (X : Cx) (r : V → Option Int → Option Int → Hp → VK → Prop) : Prop :=
  ∀ (pins : List (Addr × Obj)) (s : Shared) (σ : St) (H : Hp) (x : V) (v vl vu : Value) (lo hi : Option Int) (sl : Addr) (Q : VK), Inv X pins σ H s → RelV x v → s.heap.IsSliceOf sl vl vu .none → IsPart vl lo → IsPart vu hi → r x lo hi H Q →
    ∃ T id, typeLookup (.type T) "__getitem__" = pure (some (.builtin id)) ∧ s.TypeIs v T ∧ wpAny (model X.prog X.w) X.A (getItem v (.ref sl)) (EP X pins σ Q) X.xe s
noncomputable def tSl (r : V → Option Int → Option Int → Hp → VK → Prop) (te : TE) (tl th : TO) : TE := fun σ H Q => te σ H fun x H1 => tl σ H1 fun l H2 => th σ H2 fun u H3 => r x l u H3 Q
theorem A5c {r : V → Option Int → Option Int → Hp → VK → Prop} (hr : SlR X r) (he : PE X e te) (hl : PO X lo tl) (hu : PO X hi th) : PE X (.Subscript e (.Slice lo hi none p2) pos) (tSl r te tl th) := by
  intro pins s σ H Q I h
  refine Subscript_ (thn (he pins s σ H _ I h) fun v s1 ⟨x, H1, I1, r1, q1⟩ => ?_)
  refine wpAny_Slice (thn (hl pins s1 σ H1 _ I1 q1) fun vl s2 ⟨l, H2, I2, pl, q2⟩ => thn (hu pins s2 σ H2 _ I2 q2) fun vu s3 ⟨u, H3, I3, pu, q3⟩ => ?_)
  rw [evalPart_none]
  refine wpAny_pure ?_
  have I4 : Inv X pins σ H3 { s3 with heap := s3.heap.push { cls := .type "slice", data := .fields #[vl, vu, .none] } } := I3.kept (t' := s3.toks) fun b ob q => Heap.get?_push_of_some _ q
  obtain ⟨T, id, hT, ht, hg⟩ := hr pins { s3 with heap := s3.heap.push { cls := .type "slice", data := .fields #[vl, vu, .none] } } σ H3 x v vl vu l u s3.heap.objs.size Q I4 r1 (Heap.IsSliceOf.new ..) pl pu q3
  show wpAny (model X.prog X.w) X.A (subscriptTail e (.Slice lo hi none p2) v (.ref s3.heap.objs.size)) (EP X pins σ Q) X.xe { s3 with heap := s3.heap.push { cls := .type "slice", data := .fields #[vl, vu, .none] } }
  exact tail_any (ops := [.ref s3.heap.objs.size, v]) ht hT hg (by with_unfolding_all rfl)
noncomputable def cutV (xs : List V) (lo hi : Option Int) : List V := (xs.drop (HT.sIx xs.length 0 lo)).take (HT.sIx xs.length xs.length hi - HT.sIx xs.length 0 lo)
theorem ASg (xs : List V) (lo hi : Option Int) : (cutV xs lo hi).length ≤ xs.length := by
  unfold cutV
  rw [List.length_take, List.length_drop]
  omega
end
end L2
namespace L2
open PySem PySem.Spec PyProof.Rows
noncomputable def ixN (n : Nat) (i : Int) : Option Nat := if 0 ≤ i then (if i < n then some i.toNat else none) else if -(n : Int) ≤ i then some (i + n).toNat else none
noncomputable def atI {α : Type} (xs : List α) (i : Int) : Option α := (ixN xs.length i).bind fun j => xs[j]?
theorem A0x {n : Nat} {i : Int} {j : Nat} (h : ixN n i = some j) : seqIndex? i n = some j ∧ j < n ∧ -(n : Int) ≤ i ∧ i < n := by
  unfold ixN at h
  by_cases h0 : 0 ≤ i
  · rw [if_pos h0] at h
    by_cases h1 : i < n
    · rw [if_pos h1] at h
      have e : i.toNat = j := Option.some.inj h
      exact ⟨by rw [seqIndex_of h0 h1, e], by omega, by omega, h1⟩
    · rw [if_neg h1] at h; cases h
  · rw [if_neg h0] at h
    by_cases h1 : -(n : Int) ≤ i
    · rw [if_pos h1] at h
      have e : (i + n).toNat = j := Option.some.inj h
      exact ⟨by rw [seqIndex_neg (by omega) h1, e], by omega, h1, by omega⟩
    · rw [if_neg h1] at h; cases h
theorem A1w {α : Type} {xs : List α} {i : Int} {v : α} (h : atI xs i = some v) : ∃ j, seqIndex? i xs.length = some j ∧ xs[j]? = some v ∧ j < xs.length ∧ -(xs.length : Int) ≤ i ∧ i < xs.length := by
  unfold atI at h
  cases e : ixN xs.length i with
  | none => rw [e] at h; cases h
  | some j =>
    rw [e] at h
    obtain ⟨h1, h2, h3, h4⟩ := A0x e
    exact ⟨j, h1, h, h2, h3, h4⟩
theorem A8o {α : Type} {xs : List α} {j : Nat} {v : α} (h : xs[j]? = some v) : atI xs (j : Int) = some v := by
  have hj : j < xs.length := (List.getElem?_eq_some_iff.mp h).1
  have e : ixN xs.length (j : Int) = some j := by
    unfold ixN
    rw [if_pos (by omega), if_pos (by omega)]; simp
  unfold atI; rw [e]; exact h
theorem A3d {α : Type} (xs : List α) (v : α) : atI (xs ++ [v]) (-1) = some v := by
  have hl : (xs ++ [v]).length = xs.length + 1 := by simp
  have e : ixN (xs ++ [v]).length (-1) = some xs.length := by
    unfold ixN
    rw [hl, if_neg (by decide), if_pos (by omega)]
    congr 1
    omega
  unfold atI
  rw [e]
  show (xs ++ [v])[xs.length]? = some v
  simp
noncomputable def A8k (b : Expr) : Prop := ∀ o i, subscripted b false o i = operate [o, i] (getItem o i)
noncomputable def IxR (X : Cx) (r : R2) : Prop :=
  ∀ (value slice : Expr) (pins : List (Addr × Obj)) (s : Shared) (σ : St) (H : Hp) (x y : V) (v u : Value) (Q : VK), Inv X pins σ H s → RelV x v → RelV y u → r x y H Q →
    subscripted slice false v u = operate [v, u] (getItem v u) → wpAny (model X.prog X.w) X.A (subscriptTail value slice v u) (EP X pins σ Q) X.xe s
noncomputable def MtR (X : Cx) (id : String) (r : V → List V → Hp → VK → Prop) : Prop :=
  ∀ (pins : List (Addr × Obj)) (s : Shared) (σ : St) (H : Hp) (x : V) (xs : List V) (v : Value) (us : List Value) (Q : VK), Inv X pins σ H s → RelV x v → Vals xs us → r x xs H Q →
    wpAny (model X.prog X.w) X.A (call (.builtin id) (v :: us)) (EP X pins σ Q) X.xe s
section
variable {X : Cx} {a b : Expr} {ta tb : TE} {pos : Pos}
theorem ACz {r : R2} (hr : IxR X r) (ha : PE X a ta) (hb : PE X b tb) (hs : A8k b) : PE X (.Subscript a b pos) (tOp r ta tb) := by
  intro pins s σ H Q I h
  exact Subscript_ (binT ha hb I h fun v u s2 x y H2 I2 rx ry q => hr a b pins s2 σ H2 x y v u Q I2 rx ry q (hs _ _))
noncomputable def rIxL (K : Frag) : R2 := fun x y H Q => ∃ p xs i v, x = .ref p ∧ y = .int i ∧ SqL K H p xs ∧ atI xs i = some v ∧ Q v H
noncomputable def rIxT (K : Frag) : R2 := fun x y H Q => ∃ p xs i v, x = .ref p ∧ y = .int i ∧ SqT K H p xs ∧ atI xs i = some v ∧ Q v H
theorem AAz : IxR X (rIxL X.K) := by
  intro value slice pins s σ H x y v u Q I rx ry h hs
  obtain ⟨p, xs, i, z, rfl, rfl, hq, he, q⟩ := h
  cases rx
  obtain ⟨t, rfl⟩ := ry
  obtain ⟨its, r, pl, hz⟩ := I.list hq
  obtain ⟨j, h1, h2, h3, h4, h5⟩ := A1w he
  obtain ⟨w, ew, rw'⟩ := r.get h2
  have hl := r.length
  have hn := AVe
  have fin : EP X pins σ Q w s := ⟨z, H, I, rw', q⟩
  by_cases h0 : 0 ≤ i
  · have hj : i.toNat = j := by
      rw [seqIndex_of h0 h5] at h1
      exact Option.some.inj h1
    exact item_listR pl.isList h0 (by omega) (by rw [hj]; simpa using ew) fin hs
  · have hj : (i + (its.toArray.size : Int)).toNat = j := by
      rw [seqIndex_neg (by omega) h4] at h1
      rw [List.size_toArray, ← hl]
      exact Option.some.inj h1
    exact subscriptTail_builtinR (x := w) pl.isList.typeIs slot_list_getitem.lookup
      (wpAny_getItem_list_neg (Q := fun r s' => r = w ∧ EP X pins σ Q r s') pl.isList (by omega) (by rw [List.size_toArray] <;> omega) (by omega) (by rw [hj]; simpa using ew) ⟨rfl, fin⟩) hs
theorem AGn : IxR X (rIxT X.K) := by
  intro value slice pins s σ H x y v u Q I rx ry h hs
  obtain ⟨p, xs, i, z, rfl, rfl, hq, he, q⟩ := h
  cases rx
  obtain ⟨t, rfl⟩ := ry
  obtain ⟨its, r, pl, hz⟩ := I.tuple hq
  obtain ⟨j, h1, h2, h3, h4, h5⟩ := A1w he
  obtain ⟨w, ew, rw'⟩ := r.get h2
  have hl := r.length
  have hn := AVe
  have fin : EP X pins σ Q w s := ⟨z, H, I, rw', q⟩
  exact subscriptTail_builtinR (x := w) pl.typeIs slot_tuple_getitem.lookup
    (getItem_tuple (j := j) (Q := fun r s' => r = w ∧ EP X pins σ Q r s') pl (by omega) (by omega) (by rw [List.size_toArray, ← hl]; exact h1) (by simpa using ew) ⟨rfl, fin⟩) hs
theorem AVb (its : List Value) (n j : Nat) (u : Value) : Obj.mapSeq (·.setIfInBounds j u) { cls := .type "list", data := .seq its.toArray n } = { cls := .type "list", data := .seq (its.set j u).toArray n } := by
  simp [Obj.mapSeq]
theorem Inv.lst {pins : List (Addr × Obj)} {σ : St} {H : Hp} {s : Shared} {p : Addr} {xs : List V} (I : Inv X pins σ H s) (h : H p = some (.lst xs)) :
    ∃ (its : List Value) (n : Nat), Vals xs its ∧ s.heap.get? p = some { cls := .type "list", data := .seq its.toArray n } ∧ xs.length ≤ sizeLine := by
  obtain ⟨z, its, n, r, e⟩ := I.hok p _ h
  exact ⟨its, n, r, e, z⟩
theorem Inv.lstUpd {pins : List (Addr × Obj)} {σ : St} {H : Hp} {s : Shared} {p : Addr} {xs ys : List V} {its its' : List Value} {n n' : Nat} {f : Obj → Obj} (I : Inv X pins σ H s) (h : H p = some (.lst xs))
    (ho : s.heap.get? p = some { cls := .type "list", data := .seq its.toArray n }) (hf : f { cls := .type "list", data := .seq its.toArray n } = { cls := .type "list", data := .seq its'.toArray n' }) (r : Vals ys its') (hz : ys.length ≤ sizeLine) (t : Nat) :
    Inv X pins σ (upd H p (.lst ys)) { s with heap := s.heap.update p f, toks := t } := by
  have e : (s.heap.update p f).get? p = some { cls := .type "list", data := .seq its'.toArray n' } := by
    rw [Heap.get?_update_self f ho (by rw [hf] <;> rfl), hf]
  refine I.write (x := p) (e := p) (by rw [h]; trivial) (.inl rfl) (fun b u hb q => (Heap.get?_update_other _ _ (Ne.symm hb)).trans q) ⟨_, e⟩ ?_
  exact ⟨hz, its', n', r, e⟩
noncomputable def A3e : V → V → V → Hp → (Hp → Prop) → Prop := fun o i v H Q => ∃ p xs k j, o = .ref p ∧ i = .int k ∧ H p = some (.lst xs) ∧ ixN xs.length k = some j ∧ Q (upd H p (.lst (xs.set j v)))
theorem set_list : PSet X A3e := by
  intro pins s σ H o i v ov iv u Q I ro ri rv h
  obtain ⟨p, xs, k, j, rfl, rfl, hp, hj, q⟩ := h
  cases ro
  obtain ⟨t, rfl⟩ := ri
  obtain ⟨its, n, r, ho, hz⟩ := I.lst hp
  obtain ⟨h1, h2, h3, h4⟩ := A0x hj
  have hl := r.length
  have hn := AVe
  have I' : Inv X pins σ (upd H p (.lst (xs.set j v))) { s with heap := s.heap.update p (Obj.mapSeq (·.setIfInBounds j u)) } :=
    I.lstUpd hp ho (AVb its n j u) (r.set rv j) (by rw [List.length_set]; exact hz) s.toks
  by_cases h0 : 0 ≤ k
  · have hk : k.toNat = j := by
      rw [seqIndex_of h0 h4] at h1
      exact Option.some.inj h1
    exact PySem.W.ki_setAt ho h0 (by omega) (by rw [List.size_toArray, ← hl]; exact h4) (by rw [hk]; exact ⟨_, I', q⟩)
  · have hk : (k + (its.toArray.size : Int)).toNat = j := by
      rw [seqIndex_neg (by omega) h3] at h1
      rw [List.size_toArray, ← hl]
      exact Option.some.inj h1
    exact PySem.W.ki_setBack ho (by omega) (by rw [List.size_toArray, ← hl]; exact h3) (by omega) (by rw [hk]; exact ⟨_, I', q⟩)
theorem AQb (lo hi : Option Int) (n : Nat) : (sliceBounds lo hi none n).1 = ((HT.sIx n 0 lo : Nat) : Int) ∧ (sliceBounds lo hi none n).2.1 = ((HT.sIx n n hi : Nat) : Int) ∧ (sliceBounds lo hi none n).2.2 = 1 := by
  refine ⟨?_, ?_, rfl⟩
  · cases lo with
    | none => simp [sliceBounds, HT.sIx]
    | some i =>
      simp only [sliceBounds, HT.sIx, Option.getD_none, show (1 : Int) > 0 by decide, if_true]
      by_cases h : i < 0
      · simp only [h, if_true] <;> omega
      · simp only [h, if_false] <;> omega
  · cases hi with
    | none => simp [sliceBounds, HT.sIx]
    | some i =>
      simp only [sliceBounds, HT.sIx, Option.getD_none, show (1 : Int) > 0 by decide, if_true]
      by_cases h : i < 0
      · simp only [h, if_true] <;> omega
      · simp only [h, if_false] <;> omega
theorem AOz (its : List Value) (lo hi : Option Int) : slicePick its.toArray lo hi none = ((its.drop (HT.sIx its.length 0 lo)).take (HT.sIx its.length its.length hi - HT.sIx its.length 0 lo)).toArray := by
  obtain ⟨h1, h2, h3⟩ := AQb lo hi its.toArray.size
  unfold slicePick
  rw [h1, h2, h3]
  simp only [sliceRange_one, pick_run, List.size_toArray] <;> rfl
noncomputable def rSlL (K : Frag) : V → Option Int → Option Int → Hp → VK → Prop := fun x lo hi H Q => ∃ a xs, x = .ref a ∧ SqL K H a xs ∧ ∀ p, H p = none → Q (.ref p) (upd H p (.lst (cutV xs lo hi)))
theorem A7j : SlR X (rSlL X.K) := by
  intro pins s σ H x v vl vu lo hi sl Q I rx hs pl pu h
  obtain ⟨a, xs, rfl, hx, q⟩ := h
  cases rx
  obtain ⟨its, r, ht, hz⟩ := I.list hx
  have hlen := r.length
  refine ⟨"list", _, slot_list_getitem.lookup, ht.isList.typeIs, ?_⟩
  refine wpAny_getItem_list_slice ht.isList hs pl pu .none (by simp) ?_ (by rw [List.size_toArray] <;> omega)
  rw [AOz, ← hlen]
  refine ⟨.ref s.heap.objs.size, _, I.laid (t' := s.toks) (o := .lst (cutV xs lo hi)) (fun b ob q => Heap.get?_push_of_some _ q) (Nat.le_refl _) ?_, rfl, q _ (I.hok.fresh (Nat.le_refl _))⟩
  exact ⟨Nat.le_trans (ASg xs lo hi) hz, _, 0, (r.drop (HT.sIx xs.length 0 lo)).take (HT.sIx xs.length xs.length hi - HT.sIx xs.length 0 lo), Heap.get?_push_size _ rfl⟩
noncomputable def AZw : V → Bool
  | .non => true
  | .bl _ => true
  | .int _ => true
  | .str _ => true
  | _ => false
noncomputable def eqV : V → V → Bool
  | .non, .non => true
  | .bl a, .bl b => a == b
  | .bl a, .int b => (if a then 1 else 0) == b
  | .int a, .bl b => a == (if b then 1 else 0)
  | .int a, .int b => a == b
  | .str a, .str b => a == b
  | _, _ => false
theorem BA1 {A : Around} {s : Shared} {y x : V} {u v : Value} (ry : RelV y u) (rx : RelV x v) (fy : AZw y = true) (fx : AZw x = true) : SeqAt.EqAt A s u v (eqV y x) := by
  cases y with
  | non =>
    cases ry
    cases x with
    | non => cases rx; exact SeqAt.EqAt.same _
    | bl b => cases rx; exact SeqAt.EqAt.none_bool b
    | int b => obtain ⟨t, rfl⟩ := rx; exact SeqAt.EqAt.none_int b t
    | str b => obtain ⟨t, rfl⟩ := rx; exact SeqAt.EqAt.none_str b t
    | _ => exact absurd (show false = true from fx) Bool.false_ne_true
  | bl a =>
    cases ry
    cases x with
    | non => cases rx; exact SeqAt.EqAt.bool_none a
    | bl b => cases rx; exact SeqAt.EqAt.bool_bool a b
    | int b => obtain ⟨t, rfl⟩ := rx; exact SeqAt.EqAt.bool_int a b t
    | str b => obtain ⟨t, rfl⟩ := rx; exact SeqAt.EqAt.bool_str a b t
    | _ => exact absurd (show false = true from fx) Bool.false_ne_true
  | int a =>
    obtain ⟨t', rfl⟩ := ry
    cases x with
    | non => cases rx; exact SeqAt.EqAt.int_none a t'
    | bl b => cases rx; exact SeqAt.EqAt.int_bool a t' b
    | int b => obtain ⟨t, rfl⟩ := rx; exact SeqAt.EqAt.int_int a t' b t
    | str b => obtain ⟨t, rfl⟩ := rx; exact SeqAt.EqAt.int_str a t' b t
    | _ => exact absurd (show false = true from fx) Bool.false_ne_true
  | str a =>
    obtain ⟨t', rfl⟩ := ry
    cases x with
    | non => cases rx; exact SeqAt.EqAt.str_none a t'
    | bl b => cases rx; exact SeqAt.EqAt.str_bool a t' b
    | int b => obtain ⟨t, rfl⟩ := rx; exact SeqAt.EqAt.str_int a t' b t
    | str b => obtain ⟨t, rfl⟩ := rx; exact SeqAt.EqAt.str_str a t' b t
    | _ => exact absurd (show false = true from fx) Bool.false_ne_true
  | _ => exact absurd (show false = true from fy) Bool.false_ne_true
noncomputable def eqU (x : V) (u : Value) : Bool := match u with
  | .none => eqV .non x
  | .bool b => eqV (.bl b) x
  | .int i _ => eqV (.int i) x
  | .str z _ => eqV (.str z) x
  | _ => false
theorem A9j {x y : V} {u : Value} (r : RelV y u) (f : AZw y = true) : eqU x u = eqV y x := by
  cases y with
  | non => cases r; rfl
  | bl b => cases r; rfl
  | int i => obtain ⟨t, rfl⟩ := r; rfl
  | str z => obtain ⟨t, rfl⟩ := r; rfl
  | _ => exact absurd (show false = true from f) Bool.false_ne_true
theorem AOp {x : V} : ∀ {xs : List V} {us : List Value}, Vals xs us → xs.all AZw = true → us.any (eqU x) = xs.any fun y => eqV y x
  | _, _, .nil, _ => rfl
  | y :: xs, u :: us, .cons r t, f => by
    rw [List.all_cons, Bool.and_eq_true] at f
    rw [List.any_cons, List.any_cons, A9j r f.1, AOp t f.2]
theorem AK0 {A : Around} {s : Shared} {x : V} {v : Value} (rx : RelV x v) (fx : AZw x = true) : ∀ {xs : List V} {us : List Value}, Vals xs us → xs.all AZw = true → ∀ u ∈ us, SeqAt.EqAt A s u v (eqU x u)
  | _, _, .nil, _ => fun u hu => by cases hu
  | y :: xs, u :: us, .cons r t, f => fun u' hu => by
    rw [List.all_cons, Bool.and_eq_true] at f
    rcases List.mem_cons.mp hu with rfl | hu
    · rw [A9j r f.1]; exact BA1 r rx f.1 fx
    · exact AK0 rx fx t f.2 u' hu
noncomputable def inV (x : V) (xs : List V) : Bool := xs.any fun y => eqV y x
noncomputable def rIn (K : Frag) (neg : Bool) : R2 := fun x y H Q => ∃ p xs, y = .ref p ∧ (SqL K H p xs ∨ SqT K H p xs) ∧ AZw x = true ∧ xs.all AZw = true ∧ Q (.bl (if neg then !inV x xs else inV x xs)) H
theorem AR2 : OpR X (compareOp .In) (rIn X.K false) := by
  intro pins s σ H x y v u Q I rx ry h
  obtain ⟨p, xs, rfl, hq, fx, fs, q⟩ := h
  cases ry
  rcases hq with hq | hq
  · obtain ⟨its, r, pl, hz⟩ := I.list hq
    refine SeqAt.in_listAt (eqU x) pl.isList (fun w hw => AK0 rx fx r fs w (by simpa using hw)) ⟨.bl _, H, I, rfl, ?_⟩
    rw [show its.toArray.any (eqU x) = its.any (eqU x) by simp, AOp r fs]
    exact q
  · obtain ⟨its, r, pl, hz⟩ := I.tuple hq
    refine SeqAt.in_tupleAt (eqU x) pl (fun w hw => AK0 rx fx r fs w (by simpa using hw)) ⟨.bl _, H, I, rfl, ?_⟩
    rw [show its.toArray.any (eqU x) = its.any (eqU x) by simp, AOp r fs]
    exact q
theorem AQi : OpR X (compareOp .NotIn) (rIn X.K true) := by
  intro pins s σ H x y v u Q I rx ry h
  obtain ⟨p, xs, rfl, hq, fx, fs, q⟩ := h
  cases ry
  rcases hq with hq | hq
  · obtain ⟨its, r, pl, hz⟩ := I.list hq
    refine SeqAt.notIn_listAt (eqU x) pl.isList (fun w hw => AK0 rx fx r fs w (by simpa using hw)) ⟨.bl _, H, I, rfl, ?_⟩
    rw [show its.toArray.any (eqU x) = its.any (eqU x) by simp, AOp r fs]
    exact q
  · obtain ⟨its, r, pl, hz⟩ := I.tuple hq
    refine SeqAt.notIn_tupleAt (eqU x) pl (fun w hw => AK0 rx fx r fs w (by simpa using hw)) ⟨.bl _, H, I, rfl, ?_⟩
    rw [show its.toArray.any (eqU x) = its.any (eqU x) by simp, AOp r fs]
    exact q
theorem AD8 : A62 X (.builtin "len") (fun xs H Q => ∃ p ys, xs = [.ref p] ∧ (SqL X.K H p ys ∨ SqT X.K H p ys) ∧ Q (.int ys.length) H) := by
  intro pins s σ H xs us Q I r h
  obtain ⟨p, ys, rfl, hq, q⟩ := h
  obtain ⟨u, rfl, rx⟩ := vals1 r
  cases rx
  have hn := AVe
  rcases hq with hq | hq
  · obtain ⟨its, r', pl, hz⟩ := I.list hq
    have hlen := r'.length
    exact Calls.call_len_list pl.isList (by simp only [List.size_toArray] <;> omega) ⟨.int ys.length, H, I.tok _, ⟨s.toks + 1, by rw [List.size_toArray, hlen]⟩, q⟩
  · obtain ⟨its, r', pl, hz⟩ := I.tuple hq
    have hlen := r'.length
    exact len_tuple pl (by simp only [List.size_toArray] <;> omega) ⟨.int ys.length, H, I.tok _, ⟨s.toks + 1, by rw [List.size_toArray, hlen]⟩, q⟩
theorem APa : A62 X (.type "tuple") (fun xs H Q => ∃ p ys, xs = [.ref p] ∧ ((SqL X.K H p ys ∧ ∀ l, H l = none → Q (.ref l) (upd H l (.tup ys))) ∨ (SqT X.K H p ys ∧ Q (.ref p) H))) := by
  intro pins s σ H xs us Q I r h
  obtain ⟨p, ys, rfl, h⟩ := h
  obtain ⟨u, rfl, rx⟩ := vals1 r
  cases rx
  rcases h with ⟨hq, q⟩ | ⟨hq, q⟩
  · obtain ⟨its, r', pl, hz⟩ := I.list hq
    have hlen := r'.length
    refine call_tuple_list pl.isList (fun h' kp => ?_) (by simp only [List.size_toArray] <;> omega)
    have I1 : Inv X pins σ H { s with heap := h' } := I.kept (t' := s.toks) kp
    have I2 : Inv X pins σ (upd H h'.objs.size (.tup ys)) { s with heap := h'.push { cls := .type "tuple", data := .seq its.toArray } } :=
      I1.laid (t' := s.toks) (fun b o e => Heap.get?_push_of_some _ e) (Nat.le_refl _) (show ALd X.prog X.w _ _ _ (.tup ys) from ⟨hz, its, r', IsTup.new _ _⟩)
    exact ⟨.ref h'.objs.size, _, I2, rfl, q _ (I1.hok.fresh (Nat.le_refl _))⟩
  · obtain ⟨its, r', pl, hz⟩ := I.tuple hq
    exact call_tuple_same pl ⟨.ref p, H, I, rfl, q⟩
noncomputable def tyV (K : Frag) (T : String) (x : V) (H : Hp) : Prop := match x with
  | .str _ => T = "str"
  | .int _ => T = "int"
  | .ref p => (T = "list" ∧ ∃ xs, SqL K H p xs) ∨ (T = "tuple" ∧ ∃ o, K.lookup p = some o ∧ o.cls = .type "tuple" ∧ o.dict = none) ∨
      (T = "dict" ∧ ((∃ kvs, H p = some (.dK kvs)) ∨ ∃ kvs, H p = some (.dT kvs))) ∨ (T = "set" ∧ ∃ S n, H p = some (.set S n))
  | _ => False
theorem BDc {pins : List (Addr × Obj)} {σ : St} {H : Hp} {s : Shared} {T : String} {x : V} {v : Value} (I : Inv X pins σ H s) (r : RelV x v) (ty : tyV X.K T x H) :
    s.TypeIs v T ∧ ∀ a, v = .ref a → ∃ ob, s.heap.get? a = some ob ∧ ob.dict = none := by
  cases x with
  | str z =>
    obtain ⟨t, rfl⟩ := r
    cases (show T = "str" from ty)
    exact ⟨typeIs_str s z t, fun _ e => nomatch e⟩
  | int i =>
    obtain ⟨t, rfl⟩ := r
    cases (show T = "int" from ty)
    exact ⟨typeIs_int s i t, fun _ e => nomatch e⟩
  | ref p =>
    cases r
    rcases ty with ⟨rfl, xs, hq⟩ | ⟨rfl, o, hk, hc, hd⟩ | ⟨rfl, hk⟩ | ⟨rfl, S, n, hk⟩
    · obtain ⟨its, _, pl, _⟩ := I.list hq
      refine ⟨pl.isList.typeIs, fun a e => ?_⟩
      cases e
      obtain ⟨o, n, e, c, hd, _⟩ := pl
      exact ⟨o, e, hd⟩
    · refine ⟨⟨o, I.kIn p o hk, hc⟩, fun a e => ?_⟩
      cases e
      exact ⟨o, I.kIn _ o hk, hd⟩
    · have z : ∃ o, s.heap.get? p = some o ∧ o.ExactDict := by
        rcases hk with ⟨kvs, hk⟩ | ⟨kvs, hk⟩
        · obtain ⟨_, _, _, _, o, _, _, e, ex, _⟩ := I.hok p _ hk
          exact ⟨o, e, ex⟩
        · obtain ⟨_, _, _, _, o, _, _, e, ex, _⟩ := I.hok p _ hk
          exact ⟨o, e, ex⟩
      obtain ⟨o, e, ex⟩ := z
      refine ⟨⟨o, e, ex.1⟩, fun a e2 => ?_⟩
      cases e2
      exact ⟨o, e, ex.2.1⟩
    · obtain ⟨o, _, _, _, e, ex, _⟩ := I.hok p _ hk
      refine ⟨⟨o, e, ex.1⟩, fun a e2 => ?_⟩
      cases e2
      exact ⟨o, e, ex.2.1⟩
  | _ => exact False.elim ty
noncomputable def tBM (K : Frag) (T : String) (r : V → List V → Hp → VK → Prop) (to : TE) (t : TA) : TE := fun σ H Q => to σ H fun x H1 => tyV K T x H1 ∧ t σ H1 fun xs H2 => r x xs H2 Q
variable {o e : Expr} {es : List Expr} {to : TE} {t : TA} {name : Str} {apos cpos : Pos} {T id : String} {r : V → List V → Hp → VK → Prop}
theorem BAs (pa : PlainAttrs T) (slot : Slot T name id) (hty : typeOf (.builtin id) = pure (.type "method_descriptor")) (hm : MtR X id r) (ho : PE X o to) (ha : PA X (e :: es) t)
    (hbase : attributeBase o name X.env (eval o X.env) = eval o X.env := by rfl)
    (hfew : ((backTo cpos (starEach (e :: es) X.env)).all (fun x => !x.1) && (backToKw cpos (keywordEach [] X.env)).all (fun x => x.1.isSome)
      && decide ((e :: es).length + ([] : List Keyword).length + (if ([] : List Keyword).isEmpty then 0 else 1) < 30)) = true := by rfl)
    (hline : (apos.endLine == cpos.line) = true := by rfl) (hs : starEach (e :: es) X.env = (false, eval e X.env) :: starEach es X.env := by rfl) (hplain : (backTo cpos (starEach es X.env)).any (·.1) = false := by rfl) :
    PE X (.Call (.Attribute o name apos) (e :: es) [] cpos) (tBM X.K T r to t) := by
  intro pins s σ H Q I h
  refine wpAny_Call_method_late hbase hfew hline rfl (thn (ho pins s σ H _ I h) fun v s1 ⟨x, H1, I1, r1, ty, q1⟩ => ?_)
  obtain ⟨h1, h2⟩ := BDc I1 r1 ty
  refine ⟨T, id, pa, slot, hty, h1, h2, ?_⟩
  have hA := ha cpos pins s1 σ H1 _ I1 q1
  rw [hs] at hA ⊢
  refine Calls.callWith_builtin (by show (false || (backTo cpos (starEach es X.env)).any (·.1)) = false; rw [hplain] <;> rfl) (Calls.evalArgs_plain ?_)
  exact thn hA fun us s2 ⟨vs, H2, I2, r2, q2⟩ => hm pins s2 σ H2 x vs v us Q I2 r1 r2 q2
end
end L2
namespace L2
open PySem PySem.Spec PyProof.Rows
noncomputable def MtM (X : Cx) (id : String) (r : V → List V → Hp → VK → Prop) : Prop :=
  ∀ (pins : List (Addr × Obj)) (s : Shared) (σ : St) (H : Hp) (x : V) (xs : List V) (v : Value) (us : List Value) (Q : VK), Inv X pins σ H s → RelV x v → Vals xs us → r x xs H Q →
    wpAny (model X.prog X.w) X.A (call (.builtin id) (v :: us)) (EP X pins σ Q) X.xe s
theorem Vals.one : ∀ {x : V} {us : List Value}, Vals [x] us → ∃ u, us = [u] ∧ RelV x u
  | _, _, .cons r .nil => ⟨_, rfl, r⟩
theorem Vals.rep {xs : List V} {us : List Value} (h : Vals xs us) : ∀ k : Nat, Vals (List.replicate k xs).flatten (List.replicate k us).flatten
  | 0 => .nil
  | k + 1 => by
    rw [List.replicate_succ, List.replicate_succ, List.flatten_cons, List.flatten_cons]
    exact Vals.append h (Vals.rep h k)
theorem foldl_rep (its : List Value) : ∀ (k : Nat) (acc : List Value),
    List.foldl (fun x1 x2 => x1 ++ x2) acc.toArray (List.replicate k its.toArray) = (acc ++ (List.replicate k its).flatten).toArray
  | 0, acc => by simp
  | k + 1, acc => by
    have e : acc.toArray ++ its.toArray = (acc ++ its).toArray := by simp
    have e2 : (acc ++ its) ++ (List.replicate k its).flatten = acc ++ (List.replicate (k + 1) its).flatten := by
      rw [List.replicate_succ, List.flatten_cons, List.append_assoc]
    rw [← e2, ← foldl_rep its k (acc ++ its), ← e, List.replicate_succ, List.foldl_cons]
section
variable {X : Cx} {pins : List (Addr × Obj)} {σ : St} {H : Hp} {s : Shared} {l b : Addr} {xs ys zs : List V}
theorem Inv.lset {its its' : List Value} {n : Nat} {f : Array Value → Array Value} {t' : Nat} (I : Inv X pins σ H s) (hH : H l = some (.lst xs))
    (e : s.heap.get? l = some { cls := .type "list", data := .seq its.toArray n }) (hf : f its.toArray = its'.toArray) (hv : Vals ys its') (hz : ys.length ≤ sizeLine) :
    Inv X pins σ (upd H l (.lst ys)) { s with heap := s.heap.update l (Obj.mapSeq f), toks := t' } := by
  have q := PySem.IsL.update e f
  rw [hf] at q
  refine I.write (x := l) (e := l) (by rw [hH]; exact trivial) (.inl rfl) (fun b' u hb hu => (Heap.get?_update_other s.heap (Obj.mapSeq f) (Ne.symm hb)).trans hu) ⟨_, q⟩ ?_
  exact ⟨hz, its', _, hv, q⟩
theorem Inv.lnew {its : List Value} {t' : Nat} (I : Inv X pins σ H s) (hv : Vals ys its) (hz : ys.length ≤ sizeLine) :
    Inv X pins σ (upd H s.heap.objs.size (.lst ys)) { s with heap := s.heap.push { cls := .type "list", data := .seq its.toArray }, toks := t' } :=
  I.laid (fun _ _ q => Heap.get?_push_of_some _ q) (Nat.le_refl _) ⟨hz, its, 0, hv, Heap.get?_push_size _ rfl⟩
theorem Inv.fresh (I : Inv X pins σ H s) : H s.heap.objs.size = none := I.hok.fresh (Nat.le_refl _)
theorem Inv.lstM (I : Inv X pins σ H s) (hH : H l = some (.lst xs)) : xs.length ≤ sizeLine ∧ ∃ (its : List Value) (n : Nat), Vals xs its ∧ xs.length = its.length ∧ s.heap.get? l = some { cls := .type "list", data := .seq its.toArray n } := by
  obtain ⟨z, its, n, r, e⟩ := I.hok l _ hH
  exact ⟨z, its, n, r, r.length, e⟩
theorem A2x {n : Nat} (h : n ≤ sizeLine) : Builtin.List.listTooLong n = false := by
  unfold Builtin.List.listTooLong
  exact decide_eq_false (by omega)
end
section
variable {X : Cx}
noncomputable def AVd : V → List V → Hp → VK → Prop := fun x vs H Q => ∃ l xs y, x = .ref l ∧ vs = [y] ∧ H l = some (.lst xs) ∧ xs.length < sizeLine ∧ Q .non (upd H l (.lst (xs ++ [y])))
theorem AN9 : MtM X "list.append" AVd := by
  intro pins s σ H x vs v us Q I rx rv h
  obtain ⟨l, xs, y, rfl, rfl, hH, hz, q⟩ := h
  cases rx
  obtain ⟨u, rfl, ru⟩ := rv.one
  obtain ⟨z, its, n, r, hl, e⟩ := I.lstM hH
  refine call_meets F.slot_list_append ⟨_, e, rfl⟩ F.entry_list_append (F.args_list_append_2 _ _) (PySem.list_append l its.toArray n u (by rw [List.size_toArray]; omega)) ⟨e, ?_⟩
  refine ⟨.non, _, I.lset (its' := its ++ [u]) hH e (by simp) (r.append (.cons ru .nil)) ?_, rfl, q⟩
  rw [List.length_append, List.length_singleton]
  omega
noncomputable def rRep : R2 := fun x y H Q => ∃ l k xs, x = .ref l ∧ y = .int k ∧ H l = some (.lst xs) ∧ -(2 ^ 63) ≤ k ∧ k < 2 ^ 63 ∧ xs.length * k.toNat ≤ sizeLine ∧
  ∀ p, H p = none → Q (.ref p) (upd H p (.lst (List.replicate k.toNat xs).flatten))
theorem len_rep {α : Type} (xs : List α) (k : Nat) : (List.replicate k xs).flatten.length = k * xs.length := by
  induction k with
  | zero => simp
  | succ k ih => rw [List.replicate_succ, List.flatten_cons, List.length_append, ih, Nat.succ_mul, Nat.add_comm]
theorem BCx : OpR X (binaryOp .Mult) rRep := by
  intro pins s σ H x y v u Q I rx ry h
  obtain ⟨l, k, xs, rfl, rfl, hH, h1, h2, hz, q⟩ := h
  cases rx
  obtain ⟨t, rfl⟩ := ry
  obtain ⟨z, its, n, r, hl, e⟩ := I.lstM hH
  have hlen : its.toArray.size * k.toNat ≤ sizeLine := by rw [List.size_toArray, ← hl]; exact hz
  have hcap : ¬ its.toArray.size * k.toNat > (2 ^ 63 - 1) / 8 := by
    have : (sizeLine : Nat) ≤ (2 ^ 63 - 1) / 8 := by decide
    omega
  have hfit : ¬ (!Builtin.List.listFitsIndex k) = true := by
    rw [fitsIndex_both h1 h2]
    exact Bool.false_ne_true
  have hlong : ¬ Builtin.List.listTooLong (its.toArray.size * k.toNat) = true := by
    rw [A2x hlen]
    exact Bool.false_ne_true
  have hnew : List.foldl (fun x1 x2 => x1 ++ x2) #[] (List.replicate (if its.toArray.isEmpty = true then 0 else k.toNat) its.toArray) = (List.replicate k.toNat its).flatten.toArray := by
    have f0 : ∀ m : Nat, List.foldl (fun x1 x2 => x1 ++ x2) #[] (List.replicate m its.toArray) = (List.replicate m its).flatten.toArray := fun m => by
      have := foldl_rep its m []
      rw [List.nil_append] at this
      exact this
    rw [f0]
    cases its with
    | nil => simp
    | cons a r' => rw [if_neg (by simp)]
  refine wpAny_binaryOp_repeat_ref (T := "list") (U := "int") (by decide) ⟨_, e, rfl⟩ (fun s' => typeIs_int s' k t) noFill_list_mul F.fills_int_mul F.slot_int_rmul repeat_list F.slot_int_index.lookup
    (call_meets F.slot_int_rmul (typeIs_int s k t) F.entry_int_rmul (F.args_int_rmul_2 _ _) (int___rmul___int_list k t l its.toArray n)
      ⟨e, rfl, ⟨_, e, rfl⟩, call_meets F.slot_list_mul ⟨_, e, rfl⟩ F.entry_list_mul (F.args_list_mul_2 _ _) (AutoListH.list___mul___list_int_3 l its.toArray n k t hfit hcap hlong) ⟨e, ?_⟩⟩)
  rw [hnew]
  exact ⟨.ref _, _, I.lnew (t' := s.toks) (r.rep k.toNat) (by rw [len_rep, Nat.mul_comm]; exact hz), rfl, q _ I.fresh⟩
end
section
variable {prog : Program} {w : World} {A : Around} {E : Value → Shared → Prop} {s : Shared}
end
section
variable {X : Cx}
end
end L2
namespace L2
open PySem PySem.Spec PyProof.Rows
theorem Vals.ints : ∀ {ns : List Int} {us : List Value}, Vals (ns.map V.int) us → IntsAre us ns
  | [], us, h => by
    rw [List.map_nil] at h
    cases h
    exact IntsAre.nil
  | n :: ns, us, h => by
    rw [List.map_cons] at h
    cases h with
    | cons r t =>
      obtain ⟨k, rfl⟩ := r
      exact IntsAre.cons n k (Vals.ints t)
theorem AKm : ∀ {us : List Value} {ns : List Int}, IntsAre us ns → Vals (ns.map V.int) us
  | _, _, .nil => by rw [List.map_nil]; exact Paired.nil
  | _, _, .cons n t h => by rw [List.map_cons]; exact Paired.cons (show RelV (V.int n) (Value.int n t) from ⟨t, rfl⟩) (AKm h)
theorem Vals.ref1 {a : Addr} {us : List Value} (r : Vals [V.ref a] us) : us = [Value.ref a] := by
  cases r with
  | cons r t =>
    cases t
    cases r
    rfl
section
variable {prog : Program} {w : World} {A : Around} {E : Value → Shared → Prop} {s : Shared} {l : Addr} {its : List Value} {ns : List Int} {Q : Value → Shared → Prop}
end
section
variable {X : Cx}
end
section
variable {X : Cx}
end
section
variable {X : Cx}
end
section
variable {X : Cx}
end
mutual
inductive Dp (K : Frag) (H : Hp) : V → PyData → Prop
  | non : Dp K H .non .none
  | bl (b : Bool) : Dp K H (.bl b) (.bool b)
  | int (i : Int) : Dp K H (.int i) (.int i)
  | str (x : Str) : Dp K H (.str x) (.str x)
  | lst {a : Addr} {xs : List V} {ds : List PyData} : SqL K H a xs → A53 K H xs ds → Dp K H (.ref a) (.list ds)
  | tup {a : Addr} {xs : List V} {ds : List PyData} : SqT K H a xs → A53 K H xs ds → Dp K H (.ref a) (.tuple ds)
inductive A53 (K : Frag) (H : Hp) : List V → List PyData → Prop
  | nil : A53 K H [] []
  | cons {v : V} {vs : List V} {d : PyData} {ds : List PyData} : Dp K H v d → A53 K H vs ds → A53 K H (v :: vs) (d :: ds)
end
section
variable {X : Cx} {pins : List (Addr × Obj)} {σ : St} {H : Hp} {s : Shared}
mutual
theorem Dp.reads (I : Inv X pins σ H s) : ∀ (d : PyData) (v : V) (u : Value), Dp X.K H v d → RelV v u → ∃ as, Reads s.heap u d as
  | .none, _, _, h, r => by
    cases h
    cases r
    exact ⟨_, Reads.none⟩
  | .bool b, _, _, h, r => by
    cases h
    cases r
    exact ⟨_, Reads.bool b⟩
  | .int i, _, _, h, r => by
    cases h
    obtain ⟨t, rfl⟩ := r
    exact ⟨_, Reads.int i t⟩
  | .str x, _, _, h, r => by
    cases h
    obtain ⟨t, rfl⟩ := r
    exact ⟨_, Reads.str x t⟩
  | .list ds, _, _, h, r => by
    cases h with
    | lst hs ha =>
      cases r
      obtain ⟨its, rv, ⟨o, n, ho, hc, _, hd⟩, _⟩ := I.list hs
      obtain ⟨as, hr⟩ := Dp.readsAll I ds _ its ha rv
      exact ⟨_, Reads.list ho hc hd hr⟩
  | .tuple ds, _, _, h, r => by
    cases h with
    | tup hs ha =>
      cases r
      obtain ⟨its, rv, ⟨o, ho, hc, n, hd⟩, _⟩ := I.tuple hs
      obtain ⟨as, hr⟩ := Dp.readsAll I ds _ its ha rv
      exact ⟨_, Reads.tuple ho hc hd hr⟩
  | .dict _, _, _, h, _ => by cases h
theorem Dp.readsAll (I : Inv X pins σ H s) : ∀ (ds : List PyData) (vs : List V) (us : List Value), A53 X.K H vs ds → Vals vs us → ∃ as, ReadsAll s.heap us ds as
  | [], _, _, h, r => by
    cases h
    cases r
    exact ⟨_, ReadsAll.nil⟩
  | d :: ds, _, _, h, r => by
    cases h with
    | cons h1 h2 =>
      cases r with
      | cons r1 r2 =>
        obtain ⟨as, q1⟩ := Dp.reads I d _ _ h1 r1
        obtain ⟨bs, q2⟩ := Dp.readsAll I ds _ _ h2 r2
        exact ⟨_, ReadsAll.cons q1 q2⟩
end
end
section
variable {X : Cx}
end
end L2
namespace L2
open PySem PySem.Spec PyProof.Rows
noncomputable abbrev A9p (h : Heap) (c : Addr) (v : Option Value) : Prop := h.IsCell c v
noncomputable def relS (scope sc : Scope) : Scope :=
  { scope with names := scope.names.map fun (n, k) => if (k == .free && sc.kind == .function && sc.names.lookup n == some .cell) then (n, .cell) else (n, k) }
noncomputable def ADf (cells : List (Str × Addr)) : List (Str × NameKind) → List (Str × Addr) → List (Str × Addr)
  | [], acc => acc
  | (n, k) :: r, acc => if k == .free then ADf cells r ((n, (cells.lookup n).getD 0) :: acc) else ADf cells r acc
theorem AKj (env : Env) (f : Str × NameKind → List (Str × Addr) → Sem (ForInStep (List (Str × Addr))))
    (hf : ∀ n k c, f (n, k) c = if k == .free then (do let a ← cellOf env n; pure (.yield ((n, a) :: c))) else pure (.yield c)) :
    ∀ (names : List (Str × NameKind)) (acc : List (Str × Addr)), (∀ y ∈ names, y.2 = .free → ∃ c, env.cells.lookup y.1 = some c) → forIn names acc f = pure (ADf env.cells names acc)
  | [], acc, _ => by rw [List.forIn_nil]; rfl
  | (n, k) :: r, acc, h => by
    rw [List.forIn_cons, hf]
    have ih := fun acc => AKj env f hf r acc fun y hy => h y (List.mem_cons_of_mem _ hy)
    unfold ADf
    by_cases hk : (k == NameKind.free) = true
    · rw [if_pos hk, if_pos hk]
      obtain ⟨c, hc⟩ := h (n, k) List.mem_cons_self (by simpa using hk)
      have e : cellOf env n = pure c := by unfold cellOf; rw [hc]
      rw [e]
      have e2 : (env.cells.lookup n).getD 0 = c := by rw [hc]; rfl
      rw [e2]
      exact ih _
    · rw [if_neg hk, if_neg hk]
      exact ih _
theorem AUl {scope : Scope} {env : Env} (h : ∀ y ∈ scope.names, y.2 = .free → ∃ c, env.cells.lookup y.1 = some c) : closureFor scope env = pure (ADf env.cells scope.names []) := by
  simp only [closureFor]
  rw [AKj env _ (fun n k c => rfl) scope.names [] h]
  rfl
theorem mem_lookup {α : Type} : ∀ {l : List (Str × α)} {n : Str} {c : α}, (n, c) ∈ l → ∃ c', l.lookup n = some c'
  | (k, v) :: r, n, c, h => by
    rw [List.lookup_cons]
    cases hb : n == k with
    | true => exact ⟨_, rfl⟩
    | false =>
      rcases List.mem_cons.mp h with e | h
      · cases e; simp at hb
      · exact mem_lookup h
theorem AHs {cells : List (Str × Addr)} : ∀ {names : List (Str × NameKind)} {acc : List (Str × Addr)} {n : Str} {c : Addr}, (n, c) ∈ ADf cells names acc → (n, c) ∈ acc ∨ ((n, .free) ∈ names ∧ c = (cells.lookup n).getD 0)
  | [], _, _, _, h => .inl h
  | (m, k) :: r, acc, n, c, h => by
    unfold ADf at h
    split at h
    · rename_i hk
      have hk : k = .free := by simpa using hk
      rcases AHs h with h | ⟨h1, h2⟩
      · rcases List.mem_cons.mp h with e | h
        · cases e; exact .inr ⟨hk ▸ List.mem_cons_self, rfl⟩
        · exact .inl h
      · exact .inr ⟨List.mem_cons_of_mem _ h1, h2⟩
    · rcases AHs h with h | ⟨h1, h2⟩
      · exact .inl h
      · exact .inr ⟨List.mem_cons_of_mem _ h1, h2⟩
theorem AI6 {cells : List (Str × Addr)} : ∀ {names : List (Str × NameKind)} {acc : List (Str × Addr)} {p : Str × Addr}, p ∈ acc → p ∈ ADf cells names acc
  | [], _, _, h => h
  | (m, k) :: r, acc, p, h => by
    unfold ADf
    split
    · exact AI6 (List.mem_cons_of_mem _ h)
    · exact AI6 h
theorem AJo {cells : List (Str × Addr)} : ∀ {names : List (Str × NameKind)} {acc : List (Str × Addr)} {n : Str}, (n, .free) ∈ names → (n, (cells.lookup n).getD 0) ∈ ADf cells names acc
  | (m, k) :: r, acc, n, h => by
    unfold ADf
    rcases List.mem_cons.mp h with e | h
    · cases e
      exact AI6 List.mem_cons_self
    · split
      · exact AJo h
      · exact AJo h
theorem AIe : ∀ {names : List (Str × NameKind)} {h : Heap} {acc : List (Str × Addr)} {x : Str} {c : Addr}, (x, c) ∈ cellsFrom h.objs.size names acc →
    (x, c) ∈ acc ∨ ((x, .cell) ∈ names ∧ h.objs.size ≤ c ∧ A9p (pushCells h names) c none)
  | [], _, _, _, _, h => .inl h
  | (n, k) :: r, h, acc, x, c, hm => by
    unfold cellsFrom at hm
    unfold pushCells
    split at hm
    · rename_i hk
      rw [if_pos hk]
      have hk : k = .cell := by simpa using hk
      rw [← Heap.size_push h { cls := .type "cell", data := .cell none }] at hm
      rcases AIe hm with hm | ⟨h1, h2, h3⟩
      · rcases List.mem_cons.mp hm with e | hm
        · cases e
          exact .inr ⟨hk ▸ List.mem_cons_self, Nat.le_refl _, _, pushCells_keeps r _ _ _ (Heap.get?_push_size _ rfl), rfl⟩
        · exact .inl hm
      · rw [Heap.size_push] at h2
        exact .inr ⟨List.mem_cons_of_mem _ h1, Nat.le_of_succ_le h2, h3⟩
    · rename_i hk
      rw [if_neg hk]
      rcases AIe hm with hm | ⟨h1, h2, h3⟩
      · exact .inl hm
      · exact .inr ⟨List.mem_cons_of_mem _ h1, h2, h3⟩
theorem AJ9 : ∀ {names : List (Str × NameKind)} {n : Nat} {acc : List (Str × Addr)} {p : Str × Addr}, p ∈ acc → p ∈ cellsFrom n names acc
  | [], _, _, _, h => h
  | (m, k) :: r, n, acc, p, h => by
    unfold cellsFrom
    split
    · exact AJ9 (List.mem_cons_of_mem _ h)
    · exact AJ9 h
theorem ANg : ∀ {names : List (Str × NameKind)} {n : Nat} {acc : List (Str × Addr)} {x : Str}, (x, .cell) ∈ names → ∃ c, (x, c) ∈ cellsFrom n names acc
  | (m, k) :: r, n, acc, x, h => by
    unfold cellsFrom
    rcases List.mem_cons.mp h with e | h
    · cases e
      exact ⟨n, AJ9 List.mem_cons_self⟩
    · split
      · exact ANg h
      · exact ANg h
theorem AMr : ∀ {names : List (Str × NameKind)} {h : Heap} {acc : List (Str × Addr)} {x y : Str} {c : Addr}, (∀ p ∈ acc, p.2 < h.objs.size) → (∀ x y c, (x, c) ∈ acc → (y, c) ∈ acc → x = y) →
    (x, c) ∈ cellsFrom h.objs.size names acc → (y, c) ∈ cellsFrom h.objs.size names acc → x = y
  | [], _, _, _, _, _, _, hi, h1, h2 => hi _ _ _ h1 h2
  | (n, k) :: r, h, acc, x, y, c, hl, hi, h1, h2 => by
    unfold cellsFrom at h1 h2
    split at h1
    · rename_i hk
      rw [if_pos hk] at h2
      rw [← Heap.size_push h { cls := .type "cell", data := .cell none }] at h1 h2
      refine AMr (h := h.push _) (fun p hp => ?_) (fun x y c a b => ?_) h1 h2
      · rw [Heap.size_push]
        rcases List.mem_cons.mp hp with rfl | hp
        · exact Nat.lt_succ_self _
        · exact Nat.lt_succ_of_lt (hl p hp)
      · rcases List.mem_cons.mp a with e | a <;> rcases List.mem_cons.mp b with e' | b
        · cases e; cases e'; rfl
        · cases e; exact absurd (hl _ b) (Nat.lt_irrefl _)
        · cases e'; exact absurd (hl _ a) (Nat.lt_irrefl _)
        · exact hi _ _ _ a b
    · rename_i hk
      rw [if_neg hk] at h2
      exact AMr hl hi h1 h2
theorem ASe {M : Model} {A : Around} {E : Value → Shared → Prop} {s : Shared} {scope : Scope} {globals : Addr} {closure : List (Str × Addr)} {qual : Str} {func : Option Addr} {code : Value} {around : Env} {builtins : Addr} {Q : Env → Shared → Prop}
    (h : Q (newEnv scope s.heap.objs.size globals (cellsFrom (s.heap.objs.size + 1) scope.names closure) qual func code (some around) builtins)
      { s with heap := pushCells (s.heap.push { cls := .type "dict", data := .dict #[] }) scope.names }) :
    wpAny M A (newFunctionEnv scope globals closure [] qual func code (some around) builtins) Q E s := by
  simp only [newFunctionEnv, Option.isSome_some, if_true]
  refine wpAny_bind (wpAny_alloc ?_)
  refine wpAny_bind (wpAny_layCells _ (fun n k c => rfl) scope.names closure _ _ ?_)
  rw [show ({ s with heap := s.heap.push { cls := .type "dict", data := .dict #[] } } : Shared).heap.objs.size = s.heap.objs.size + 1 from Heap.size_push ..]
  rw [List.forIn_nil]
  exact wpAny_bind (wpAny_pure (wpAny_pure h))
theorem AJl {sc : Scope} : ∀ {names : List (Str × NameKind)} {x : Str} {k : NameKind},
    (names.map fun (n, k) => if (k == NameKind.free && sc.kind == .function && sc.names.lookup n == some .cell) then (n, NameKind.cell) else (n, k)).lookup x = some k →
    ∃ k', names.lookup x = some k' ∧ (k = k' ∨ (k' = .free ∧ k = .cell))
  | [], _, _, h => by simp at h
  | (n, k₀) :: r, x, k, h => by
    have ih := @AJl sc r x k
    have h' : List.lookup x ((if (k₀ == NameKind.free && sc.kind == .function && sc.names.lookup n == some .cell) = true then (n, NameKind.cell) else (n, k₀)) :: (r.map _)) = some k := h
    cases hx : x == n with
    | true =>
      simp only [List.lookup_cons, hx]
      by_cases hc : (k₀ == NameKind.free && sc.kind == .function && sc.names.lookup n == some .cell) = true
      · rw [if_pos hc] at h'
        simp only [List.lookup_cons, hx] at h'
        cases h'
        simp only [Bool.and_eq_true, beq_iff_eq] at hc
        exact ⟨k₀, rfl, .inr ⟨hc.1.1, rfl⟩⟩
      · rw [if_neg hc] at h'
        simp only [List.lookup_cons, hx] at h'
        cases h'
        exact ⟨_, rfl, .inl rfl⟩
    | false =>
      simp only [List.lookup_cons, hx]
      by_cases hc : (k₀ == NameKind.free && sc.kind == .function && sc.names.lookup n == some .cell) = true
      · rw [if_pos hc] at h'
        simp only [List.lookup_cons, hx] at h'
        exact ih h'
      · rw [if_neg hc] at h'
        simp only [List.lookup_cons, hx] at h'
        exact ih h'
structure A7p (N : List Str) (sc scope : Scope) (own : List (Str × Nat)) : Prop where
  kind : scope.kind = .function
  uniq : ∀ y ∈ scope.names, scope.names.lookup y.1 = some y.2
  ix : ∀ p ∈ own, N[p.2]? = some p.1
  free : ∀ y ∈ scope.names, y.2 = .free → sc.names.lookup y.1 = some .cell ∨ sc.names.lookup y.1 = some .free
  own : ∀ y ∈ scope.names, y.2 = .local ∨ y.2 = .cell → y.1 ∈ own.map (·.1) ∨ y.1 ∉ N
noncomputable def wipe (σ : St) : List Nat → St
  | [] => σ
  | v :: vs => (wipe σ vs).set v none
theorem AI5 (σ : St) : ∀ vs : List Nat, (wipe σ vs).length = σ.length
  | [] => rfl
  | v :: vs => by unfold wipe; rw [List.length_set, AI5 σ vs]
theorem ANo {σ : St} {i : Nat} {x : V} : ∀ {vs : List Nat}, (wipe σ vs)[i]? = some (some x) → σ[i]? = some (some x) ∧ i ∉ vs
  | [], h => ⟨h, by simp⟩
  | v :: vs, h => by
    unfold wipe at h
    by_cases hi : v = i
    · subst hi
      by_cases hv : v < (wipe σ vs).length
      · rw [List.getElem?_set_self hv] at h; cases h
      · rw [List.getElem?_eq_none (by simpa using hv)] at h; cases h
    · rw [List.getElem?_set_ne hi] at h
      obtain ⟨h1, h2⟩ := ANo h
      exact ⟨h1, by simp only [List.mem_cons, not_or]; exact ⟨fun e => hi e.symm, h2⟩⟩
noncomputable abbrev Cx.blk (X : Cx) (s : Shared) (H : Hp) (scope : Scope) (cenv : Env) (fp : List Addr) : Cx := { X with s_0 := s, H_0 := H, env := cenv, outer := X.stack, ex := fp, fn := fun x => scope.names.lookup x == some .cell, pn := [], xe := fun _ _ => False }
section
variable {X : Cx} {pins : List (Addr × Obj)} {σ : St} {H : Hp} {s : Shared}
theorem ASr {scope : Scope} {own : List (Str × Nat)} {fp : List Addr} (I : Inv X pins σ H s) (ok : A7p X.N X.env.scope scope own) (hN : X.N.Nodup) (hfp : ∀ b ∈ fp, FpOk X pins H b ∧ b < s.heap.objs.size) :
    Inv (X.blk s H scope (compEnvC scope (cellsFrom (s.heap.objs.size + 1) scope.names (ADf X.env.cells scope.names [])) s.heap.objs.size X.env) fp) [] (wipe σ (own.map (·.2))) H { s with heap := pushCells (s.heap.push { cls := .type "dict", data := .dict #[] }) scope.names } := by
  have hfree : ∀ y ∈ scope.names, y.2 = .free → ∃ c, X.env.cells.lookup y.1 = some c := fun y hy e => by
    rcases ok.free y hy e with k | k
    · exact I.ok.has _ (.inl k)
    · exact I.ok.has _ (.inr k)
  generalize hcenv : compEnvC scope (cellsFrom (s.heap.objs.size + 1) scope.names (ADf X.env.cells scope.names [])) s.heap.objs.size X.env = cenv
  have kp : ∀ b o, s.heap.get? b = some o → (pushCells (s.heap.push { cls := .type "dict", data := .dict #[] }) scope.names).get? b = some o := fun b o e => pushCells_keeps _ _ _ _ (Heap.get?_push_of_some _ e)
  have hL : cenv.locals = s.heap.objs.size := by rw [← hcenv]; rfl
  have hcl : cenv.cells = cellsFrom (s.heap.objs.size + 1) scope.names (ADf X.env.cells scope.names []) := by rw [← hcenv]; rfl
  have hsc : cenv.scope = relS scope X.env.scope := by rw [← hcenv]; rfl
  rw [← Heap.size_push s.heap { cls := .type "dict", data := .dict #[] }] at hcl
  have cm : ∀ {y c}, (y, c) ∈ ADf X.env.cells scope.names [] → X.env.cells.lookup y = some c ∧ c < s.heap.objs.size := fun {y c} hm => by
    rcases AHs hm with hm | ⟨h1, rfl⟩
    · cases hm
    · obtain ⟨c, hc⟩ := hfree _ h1 rfl
      rw [hc]
      obtain ⟨w, z⟩ := I.cell _ _ hc
      exact ⟨rfl, z.lt⟩
  have mem : ∀ {y c}, cenv.cells.lookup y = some c → (X.env.cells.lookup y = some c ∧ c < s.heap.objs.size) ∨ (s.heap.objs.size + 1 ≤ c ∧ A9p (pushCells (s.heap.push { cls := .type "dict", data := .dict #[] }) scope.names) c none) := fun {y c} e => by
    rw [hcl] at e
    rcases AIe (PySem.mem_of_lookup e) with hm | ⟨_, h2, h3⟩
    · exact .inl (cm hm)
    · rw [Heap.size_push] at h2; exact .inr ⟨h2, h3⟩
  have look : ∀ {y}, scope.names.lookup y = some .free → ∃ c, cenv.cells.lookup y = some c ∧ X.env.cells.lookup y = some c := fun {y} hl => by
    have hy : (y, NameKind.free) ∈ scope.names := PySem.mem_of_lookup hl
    obtain ⟨c', e'⟩ := mem_lookup (AJ9 (names := scope.names) (n := (s.heap.push { cls := .type "dict", data := .dict #[] }).objs.size) (AJo (cells := X.env.cells) (acc := []) hy))
    rw [← hcl] at e'
    refine ⟨c', e', ?_⟩
    rw [hcl] at e'
    rcases AIe (PySem.mem_of_lookup e') with hm | ⟨h1, _, _⟩
    · exact (cm hm).1
    · have := ok.uniq _ h1
      rw [hl] at this; cases this
  have okB : (X.blk s H scope cenv fp).Ok := by
    refine ⟨I.ok.mod, by show cenv.scope.kind = _; rw [hsc]; exact ok.kind, by show cenv.globals = _; rw [← hcenv]; exact I.ok.glob, by show cenv.builtins = _; rw [← hcenv]; exact I.ok.blt, by show s.heap.objs.size ≤ cenv.locals; rw [hL]; exact Nat.le_refl _,
      fun y z c e1 e2 => ?_, fun y hy => ?_, fun y c z e => ?_, I.ok.hd, I.ok.frames, .inl rfl, fun b hb => ⟨?_, fun y c e z => ?_⟩, I.bs, Nat.le_trans I.ok.bsz I.sz, fun b o e hb => ?_, fun b hb z => ?_, I.stack, I.stkFree⟩
    · have e1 : cenv.cells.lookup y = some c := e1
      have e2 : cenv.cells.lookup z = some c := e2
      rw [hcl] at e1 e2
      refine AMr (fun p hp => ?_) (fun y z c a b => I.ok.inj y z c (cm a).1 (cm b).1) (PySem.mem_of_lookup e1) (PySem.mem_of_lookup e2)
      rw [Heap.size_push]
      exact Nat.lt_succ_of_lt (cm (y := p.1) (c := p.2) hp).2
    · show ∃ c, cenv.cells.lookup y = some c
      have key : ∀ k, cenv.kindOf y = some k → (k = .cell ∨ k = .free) → ∃ c, cenv.cells.lookup y = some c := fun k hk hk' => by
        unfold Env.kindOf at hk
        rw [hsc] at hk
        obtain ⟨k', e, r⟩ := AJl hk
        have : k' = .cell ∨ k' = .free := by
          rcases r with rfl | ⟨rfl, _⟩
          · exact hk'
          · exact .inr rfl
        rcases this with rfl | rfl
        · obtain ⟨c, hm⟩ := ANg (n := (s.heap.push { cls := .type "dict", data := .dict #[] }).objs.size) (acc := ADf X.env.cells scope.names []) (PySem.mem_of_lookup e)
          obtain ⟨c', e'⟩ := mem_lookup hm
          exact ⟨c', by rw [hcl]; exact e'⟩
        · obtain ⟨c, h1, _⟩ := look e
          exact ⟨c, h1⟩
      rcases hy with hy | hy
      · exact key _ hy (.inl rfl)
      · exact key _ hy (.inr rfl)
    · have z : (scope.names.lookup y == some NameKind.cell) = true := z
      have z : scope.names.lookup y = some .cell := by simpa using z
      have e : cenv.cells.lookup y = some c := e
      rw [hcl] at e
      rcases AIe (PySem.mem_of_lookup e) with hm | ⟨_, h2, _⟩
      · rcases AHs hm with hm | ⟨h1, _⟩
        · cases hm
        · have q := ok.uniq _ h1
          rw [z] at q; cases q
      · rw [Heap.size_push] at h2
        exact Nat.le_of_succ_le h2
    · show b ≠ cenv.locals
      rw [hL]; exact Nat.ne_of_lt (hfp b hb).2
    · have e : cenv.cells.lookup y = some c := e
      rcases mem e with ⟨h1, _⟩ | ⟨h1, _⟩
      · exact (hfp b hb).1.2.2.2.2.1 y c h1 z
      · have h2 : s.heap.objs.size + 1 ≤ b := by rw [← z]; exact h1
        exact absurd (Nat.lt_of_lt_of_le (hfp b hb).2 (Nat.le_of_succ_le h2)) (Nat.lt_irrefl _)
    · rcases (hfp b hb).1.2.2.2.1 with z | z
      · exact I.ok.noex b o e z
      · exact absurd (Nat.lt_of_lt_of_le (Heap.lt_size e) (Nat.le_trans I.ok.bsz z)) (Nat.lt_irrefl _)
    · rcases List.mem_cons.mp (I.stkSub b z) with z | z
      · exact (hfp b hb).1.2.1 z
      · exact (hfp b hb).1.2.2.1 z
  refine ⟨okB, rfl, I.bare, Un.kept kp, ⟨fun _ => none, ?_, fun i y av e1 e2 e3 => ?_⟩, fun y c e => ?_, ?_, fun y c e => ?_, fun p hp => ?_, I.hok.kept kp, by rw [AI5]; exact I.len⟩
  · show Heap.Ns _ cenv.locals _
    rw [hL]
    exact Heap.Ns.keeps (Heap.Ns.new ..) fun b o e => pushCells_keeps _ _ _ _ e
  · obtain ⟨e2, hne⟩ := ANo e2
    have hfr : scope.names.lookup y = some .free ∧ (cenv.kindOf y = some .cell ∨ cenv.kindOf y = some .free) := by
      have key : ∀ k, cenv.scope.names.lookup y = some k → k = .local ∨ k = .cell ∨ k = .free → scope.names.lookup y = some .free ∧ (cenv.kindOf y = some .cell ∨ cenv.kindOf y = some .free) := fun k hk hk' => by
        have hk0 := hk
        rw [hsc] at hk
        obtain ⟨k', e, r⟩ := AJl hk
        have no : ¬ (k' = .local ∨ k' = .cell) := fun hh => by
          rcases ok.own _ (PySem.mem_of_lookup e) hh with e' | e'
          · obtain ⟨p, hp, hpy⟩ := List.mem_map.mp e'
            have e3 := ok.ix p hp
            have : p.1 = y := hpy
            rw [this] at e3
            exact hne (List.mem_map.mpr ⟨p, hp, APz hN e3 e1⟩)
          · exact e' (List.mem_of_getElem? e1)
        rcases r with rfl | ⟨rfl, rfl⟩
        · rcases hk' with rfl | rfl | rfl
          · exact absurd (.inl rfl) no
          · exact absurd (.inr rfl) no
          · exact ⟨e, .inr hk0⟩
        · exact ⟨e, .inl hk0⟩
      have e3 : Vis cenv.scope y := e3
      rcases e3 with e3 | e3 | e3
      · exact key _ e3 (.inl rfl)
      · exact key _ e3 (.inr (.inl rfl))
      · exact key _ e3 (.inr (.inr rfl))
    obtain ⟨m, hn, hl⟩ := I.loc
    have hvis : Vis X.env.scope y := (ok.free _ (PySem.mem_of_lookup hfr.1) rfl).elim (fun k => .inr (.inl k)) (fun k => .inr (.inr k))
    obtain ⟨w, r, q⟩ := hl i y av e1 e2 hvis
    refine ⟨w, r, .inr ⟨hfr.2, ?_⟩⟩
    obtain ⟨c, h1, h2⟩ := look hfr.1
    rcases q with ⟨k, _⟩ | ⟨_, c', e', z⟩
    · have k : X.env.scope.names.lookup y = some .local := k
      rcases ok.free _ (PySem.mem_of_lookup hfr.1) rfl with k' | k' <;> rw [show X.env.scope.names.lookup y = _ from k'] at k <;> cases k
    · rw [h2] at e'; cases e'
      exact ⟨c, h1, z.keeps kp⟩
  · have e : cenv.cells.lookup y = some c := e
    rcases mem e with ⟨h1, _⟩ | ⟨_, z⟩
    · obtain ⟨w, z⟩ := I.cell y c h1
      exact ⟨w, z.keeps kp⟩
    · exact ⟨_, z⟩
  · show H cenv.locals = none
    rw [hL]; exact I.hok.fresh (Nat.le_refl _)
  · have e : cenv.cells.lookup y = some c := e
    rcases mem e with ⟨h1, _⟩ | ⟨h1, _⟩
    · exact I.freeC y c h1
    · exact I.hok.fresh (Nat.le_of_succ_le h1)
  · exact absurd (show p ∈ ([] : List (Addr × Obj)) ++ [] from hp) (by simp)
theorem BBe {E : Value → Shared → Prop} {D : Addr} {xs : List V} {y : V} {v : Value} {Q : Value → Shared → Prop} (I : Inv X pins σ H s) (hD : H D = some (.lst xs)) (hz : xs.length < sizeLine) (r : RelV y v)
    (h : ∀ s', Inv X pins σ (upd H D (.lst (xs ++ [y]))) s' → Q .none s') : wpAny (model X.prog X.w) X.A (call (.builtin "list.append") [.ref D, v]) Q E s := by
  obtain ⟨hz', its, n, ri, e⟩ := I.hok D _ hD
  have hl := ri.length
  refine append_at (hsz := by rw [List.size_toArray]; omega) e fun h' sb ho' => ?_
  refine h { s with heap := h' } (I.write (t' := s.toks) (by rw [hD]; trivial) (.inl rfl) (fun b u hb q => (sb.2 b hb).trans q) ⟨_, ho'⟩ ⟨by rw [List.length_append]; exact hz, its ++ [v], n + 1, ri.append (.cons r .nil), ?_⟩)
  rw [ho']
  simp
noncomputable def PTs (X : Cx) (ifs : List Expr) (t : TT) : Prop :=
  ∀ (pins : List (Addr × Obj)) (s : Shared) (σ : St) (H : Hp) (Q : Bool → Hp → Prop), Inv X pins σ H s → t σ H Q →
    wpAny (model X.prog X.w) X.A (forIn ifs true fun c r => if r = true then do let ok ← isTrue c X.env (eval c X.env); pure (ForInStep.yield ok) else pure (ForInStep.yield r)) (TP X pins σ Q) X.xe s
theorem A9c {c : Expr} {t : TT} (h : PT X c t) : PTs X [c] t := fun pins s σ H Q I hw => wpAny_tests_one (h pins s σ H Q I hw)
end
theorem thnF {α : Type} {t : Sem α} {Q Q' : α → Shared → Prop} {M : Model} {A : Around} {E : Value → Shared → Prop} {s : Shared} (h : wpAny M A t Q (fun _ _ => False) s) (hQ : ∀ a s, Q a s → Q' a s) : wpAny M A t Q' E s := wpAny_mono h hQ fun _ _ z => False.elim z
theorem AQ1 {prog : Program} {w : World} {A : Around} {R : Result → Shared → Prop} {s : Shared} {elt target iter : Expr} {ifs : List Expr} {scope : Scope} {pos : Pos} {it acc : Value} {env : Env} (I : Nat → Shared → Prop)
    (turn : ∀ n s, I n s → wpAny (model prog w) A (pyNext it) (fun r s₁ => match r with
      | none => R (.ok .next) s₁
      | some v => wpAny (model prog w) A (letOwnedTupleGo target it v) (fun _ s₁' => wpAny (model prog w) A (assign target env v) (fun _ s₂ =>
          wpAny (model prog w) A (forIn ifs true fun c r => if r = true then do let ok ← isTrue c env (eval c env); pure (ForInStep.yield ok) else pure (ForInStep.yield r)) (fun ok s₃ =>
            if ok = true then wpAny (model prog w) A (eval elt env) (fun x s₄ =>
              wpAny (model prog w) A (call (.builtin "list.append") [acc, x]) (fun _ s₅ => ∃ m, m < n ∧ I m s₅) (notedBy (model prog w) A env fun e s' => R (.error e) s') s₄) (notedBy (model prog w) A env fun e s' => R (.error e) s') s₃
            else ∃ m, m < n ∧ I m s₃) (notedBy (model prog w) A env fun e s' => R (.error e) s') s₂) (notedBy (model prog w) A env fun e s' => R (.error e) s') s₁') (notedBy (model prog w) A env fun e s' => R (.error e) s') s₁) (notedBy (model prog w) A env fun e s' => R (.error e) s') s)
    (n : Nat) (h : I n s) :
    codeAny (model prog w) A (.compLoop (.ListComp elt [⟨target, iter, ifs, 0⟩] scope pos) 0 it acc env) R s := by
  refine codeAny_loop rfl I (fun n s hI => ?_) n h
  show wpAny _ A ((compTurn (.ListComp elt [⟨target, iter, ifs, 0⟩] scope pos) 0 it acc env).onRaise (fun x => do noteFrame x env; theTreesLotGoes x)) _ _ s
  refine wpAny_noted ?_
  rw [compTurn_list]
  refine wpAny_bind (wpAny_standAt (wpAny_bind (wpAny_mono (turn n s hI) (fun r s₁ h₁ => ?_) fun _ _ h' => h')))
  cases r with
  | none => exact wpAny_pure h₁
  | some v =>
    refine wpAny_bind (wpAny_mono h₁ (fun _ s₁' h₁' => ?_) fun _ _ h' => h')
    refine wpAny_bind (wpAny_mono h₁' (fun _ s₂ h₂ => wpAny_bind (wpAny_mono h₂ (fun ok s₃ h₃ => ?_) fun _ _ h' => h')) fun _ _ h' => h')
    cases ok with
    | false => exact wpAny_pure ⟨rfl, h₃⟩
    | true =>
      exact wpAny_bind (wpAny_bind (wpAny_mono h₃ (fun x s₄ h₄ => wpAny_bind (wpAny_mono h₄ (fun _ s₅ h₅ => wpAny_pure (wpAny_pure ⟨rfl, h₅⟩)) fun _ _ h' => h')) fun _ _ h' => h'))
section
variable {X : Cx}
noncomputable def tLc (wi : TI) (g : TG) (tt : TT) (te : TE) (vs : List Nat) : TE := fun σ H Q => wi σ H fun J H1 => ∀ D, H1 D = none → ∃ W : Nat → Nat → Hp → Prop, (∃ m, W 0 m (upd H1 D (.lst []))) ∧ ∀ i m H, W i m H →
  (J.stop i H ∧ Q (.ref D) H) ∨ (J.go i H ∧ ∃ Nx : Hp → Prop, (∀ H', Nx H' → ∃ m', m' < m ∧ W (i + 1) m' H') ∧ ∀ x H', J.yld i H x H' → g x (wipe σ vs) H' fun σ2 H2 => wipe σ2 vs = wipe σ vs ∧ tt σ2 H2 fun b H3 =>
    if b = true then te σ2 H3 fun y H4 => ∃ acc, H4 D = some (.lst acc) ∧ acc.length < sizeLine ∧ Nx (upd H4 D (.lst (acc ++ [y]))) else Nx H3)
theorem A6z {pins : List (Addr × Obj)} {s : Shared} {σ : St} {H : Hp} {Q : VK} {elt tg iter : Expr} {ifs : List Expr} {scope : Scope} {own : List (Str × Nat)} {pos pos' : Pos} {wi : TI} {g : TG} {tt : TT} {te : TE} {use : Option (Value → Sem Unit)} {Qf : Value → Shared → Prop}
    (hc : X.calm = true) (hN : X.N.Nodup) (I : Inv X pins σ H s) (hi : PI X tg iter wi) (ok : A7p X.N X.env.scope scope own)
    (hg : ∀ (s : Shared) (H : Hp) (C : Addr) (cl : List (Str × Addr)) (fp : List Addr), PG (X.blk s H scope (compEnvC scope cl C X.env) fp) tg g) (ht : ∀ (s : Shared) (H : Hp) (C : Addr) (cl : List (Str × Addr)) (fp : List Addr), PTs (X.blk s H scope (compEnvC scope cl C X.env) fp) ifs tt)
    (he : ∀ (s : Shared) (H : Hp) (C : Addr) (cl : List (Str × Addr)) (fp : List Addr), PE (X.blk s H scope (compEnvC scope cl C X.env) fp) elt te) (hs : ∀ x, foldedSetIterable iter X.env x = pure x)
    (h : tLc wi g tt te (own.map (·.2)) σ H Q)
    (hRR : ∀ D C s' m H', Inv X pins σ H' s' → Q (.ref D) H' → s'.heap.Ns C m → FpOk X pins H' C → compPost (model X.prog X.w) X.A X.xe use Qf (.ref D) C (.ok .next) s') :
    wpAny (model X.prog X.w) X.A (comprehension (.ListComp elt [⟨tg, iter, ifs, 0⟩] scope pos) scope X.env pos' (newList []) false (eval iter X.env) use) Qf X.xe s := by
  have hfree : ∀ y ∈ scope.names, y.2 = .free → ∃ c, X.env.cells.lookup y.1 = some c := fun y hy e => by
    rcases ok.free y hy e with k | k
    · exact I.ok.has _ (.inl k)
    · exact I.ok.has _ (.inr k)
  refine wpAny_comprehension_free (use := use) rfl hs (AUl hfree) ok.kind (fun y hy e => by rw [ok.uniq y hy, e])
    (thn (hi pins s σ H _ I h) fun xv s1 hx => thn hx fun itv s2 h2 => ?_)
  obtain ⟨it, fp, tn, J, H2, e, I2, T, st2, f2, q⟩ := h2
  subst e
  refine wpAny_newObj_type (ASe ?_) (by show 0 ≤ sizeLine; decide)
  generalize hD : s2.heap.objs.size = D
  have hDn : H2 D = none := I2.hok.fresh (Nat.le_of_eq hD)
  obtain ⟨W, ⟨m0, w0⟩, turn⟩ := q D hDn
  generalize hs3 : ({ s2 with heap := s2.heap.push { cls := .type "list", data := .seq ([] : List Value).toArray } } : Shared) = s3
  have I3 : Inv X pins σ (upd H2 D (.lst [])) s3 := by
    rw [← hs3]
    refine I2.laid (t' := s2.toks) (fun b o e => Heap.get?_push_of_some _ e) (Nat.le_of_eq hD) ⟨Nat.zero_le _, [], 0, .nil, ?_⟩
    rw [← hD]
    exact Heap.get?_push_size _ rfl
  have h3 : s3.heap = s2.heap.push { cls := .type "list", data := .seq ([] : List Value).toArray } := by rw [← hs3]
  have sz : ∀ b ∈ fp, b < s2.heap.objs.size := fun b hb => by
    obtain ⟨o, e, _⟩ := T.obj _ _ st2 b hb
    exact Heap.lt_size e
  have f3 : ∀ b ∈ fp, FpOk X pins (upd H2 D (.lst [])) b ∧ b < s3.heap.objs.size := fun b hb => by
    have hlt := sz b hb
    refine ⟨⟨?_, (f2 b hb).2⟩, by rw [h3, Heap.size_push]; exact Nat.lt_succ_of_lt hlt⟩
    rw [ABi (by rw [← hD]; exact Nat.ne_of_lt hlt)]
    exact (f2 b hb).1
  have st3 : tn 0 s3.heap := T.keep _ _ _ st2 fun b _ o e => by rw [h3]; exact Heap.get?_push_of_some _ e
  have I4 := ASr I3 ok hN f3
  have pg := hg s3 (upd H2 D (.lst [])) s3.heap.objs.size (cellsFrom (s3.heap.objs.size + 1) scope.names (ADf X.env.cells scope.names [])) fp
  have pt := ht s3 (upd H2 D (.lst [])) s3.heap.objs.size (cellsFrom (s3.heap.objs.size + 1) scope.names (ADf X.env.cells scope.names [])) fp
  have pe := he s3 (upd H2 D (.lst [])) s3.heap.objs.size (cellsFrom (s3.heap.objs.size + 1) scope.names (ADf X.env.cells scope.names [])) fp
  show codeAny _ _ (.compStart (.ListComp elt [⟨tg, iter, ifs, 0⟩] scope pos) 0 (.ref it) (.ref D) (compEnvC scope (cellsFrom (s3.heap.objs.size + 1) scope.names (ADf X.env.cells scope.names [])) s3.heap.objs.size X.env)) (compPost (model X.prog X.w) X.A X.xe use Qf (.ref D) s3.heap.objs.size) { s3 with heap := pushCells (s3.heap.push { cls := .type "dict", data := .dict #[] }) scope.names }
  have nfp : ∀ b ∈ fp, (upd H2 D (.lst [])) b = none := fun b hb => (f3 b hb).1.1
  generalize hce : compEnvC scope (cellsFrom (s3.heap.objs.size + 1) scope.names (ADf X.env.cells scope.names [])) s3.heap.objs.size X.env = ce at I4 pg pt pe ⊢
  have cL : ce.locals = s3.heap.objs.size := by subst hce; rfl
  generalize hH3 : upd H2 D (.lst []) = H3 at I3 I4 pg pt pe w0 nfp f3
  generalize hs4 : ({ s3 with heap := pushCells (s3.heap.push { cls := .type "dict", data := .dict #[] }) scope.names } : Shared) = s4 at I4 ⊢
  have st4 : tn 0 s4.heap := T.keep _ _ _ st3 fun b _ o e => by rw [← hs4]; exact pushCells_keeps _ _ _ _ (Heap.get?_push_of_some _ e)
  have stat : ∀ {σ' : St} {H' : Hp} {s' : Shared}, Inv (X.blk s3 H3 scope ce fp) [] σ' H' s' → (∀ b ∈ fp, H' b = none) → ∀ b ∈ fp, FpOk (X.blk s3 H3 scope ce fp) [] H' b := fun {σ' H' s'} I' hn b hb =>
    ⟨hn b hb, (I'.ok.exf b hb).1, I'.ok.exfs b hb, .inl hb, fun x c e => (I'.ok.exf b hb).2 x c e, fun p hp => absurd (show p ∈ ([] : List (Addr × Obj)) ++ [] from hp) (by simp)⟩
  have loop : codeAny (model X.prog X.w) X.A (.compLoop (.ListComp elt [⟨tg, iter, ifs, 0⟩] scope pos) 0 (.ref it) (.ref D) ce) (compPost (model X.prog X.w) X.A X.xe use Qf (.ref D) s3.heap.objs.size) s4 := by
    refine AQ1 (fun n s' => ∃ i H', Inv (X.blk s3 H3 scope ce fp) [] (wipe σ (own.map (·.2))) H' s' ∧ tn i s'.heap ∧ (∀ b ∈ fp, H' b = none) ∧ W i n H') ?_ m0 ⟨0, H3, I4, st4, nfp, w0⟩
    rintro n s5 ⟨i, H5, I5, st5, n5, w5⟩
    rcases turn i n H5 w5 with ⟨stop, qq⟩ | ⟨go, Nx, hNx, step⟩
    · have td := T.done (X.blk s3 H3 scope ce fp) rfl rfl rfl hc i [] s5 _ H5 (fun _ _ => False) I5 (stat I5 n5) st5 stop
      refine thnF td fun r s6 ⟨hr, I6⟩ => ?_
      subst hr
      have I7 : Inv X pins σ H5 s6 := I3.call' (ch := fp) I6.os I6.base I6.hok I6.bare fun b hb => ⟨(f3 b hb).1.2.2.2.1, (f3 b hb).1.2.1, (f3 b hb).1.2.2.2.2.1, (f3 b hb).1.2.2.2.2.2⟩
      have nC : H5 s3.heap.objs.size = none := by
        have z : H5 ce.locals = none := I6.free
        rw [cL] at z
        exact z
      obtain ⟨m, hn, _⟩ := I6.loc
      have hn : s6.heap.Ns ce.locals m := hn
      rw [cL] at hn
      exact hRR D s3.heap.objs.size s6 m H5 I7 qq hn (I3.fpOk (Nat.le_refl _) nC)
    · have ti := T.item (X.blk s3 H3 scope ce fp) rfl rfl rfl hc i [] s5 _ H5 (fun _ _ => False) I5 (stat I5 n5) st5 go
      refine thnF ti fun r s6 ⟨u, hr, h6⟩ => ?_
      subst hr
      refine thnF h6 fun _ s7 ⟨x, H7, I7, r7, y7, st7, n7⟩ => ?_
      have I7' := I7.pinned (stat I7 n7) (T.obj _ _ st7)
      refine thnF (pg _ s7 _ H7 x u _ I7' r7 (step x H7 y7)) fun _ s8 ⟨σ8, H8, I8, hw8, q8⟩ => ?_
      refine thnF (pt _ s8 σ8 H8 _ I8 q8) fun b s9 ⟨H9, I9, q9⟩ => ?_
      have fin : ∀ {s' : Shared} {H' : Hp}, Inv (X.blk s3 H3 scope ce fp) ([] ++ AW3 fp s7.heap) σ8 H' s' → Nx H' → ∃ m, m < n ∧ ∃ i H', Inv (X.blk s3 H3 scope ce fp) [] (wipe σ (own.map (·.2))) H' s' ∧ tn i s'.heap ∧ (∀ b ∈ fp, H' b = none) ∧ W i m H' := fun {s' H'} I' nx => by
        obtain ⟨m', hm, w'⟩ := hNx H' nx
        have pin' : ∀ b ∈ fp, ∀ o, s7.heap.get? b = some o → s'.heap.get? b = some o ∧ H' b = none := fun b hb o e =>
          let z := I'.pin (b, o) (List.mem_append_right _ (List.mem_append_right _ (AK9 hb e)))
          ⟨z.1, z.2.1⟩
        have hl : (wipe σ (own.map (·.2))).length = σ8.length := by rw [← hw8, AI5]
        refine ⟨m', hm, i + 1, H', (I'.unpinned (pins := [])).weak hl (fun j v e => ?_), T.keep _ _ _ st7 fun b hb o e => (pin' b hb o e).1, fun b hb => ?_, w'⟩
        · rw [← hw8] at e
          exact (ANo e).1
        · obtain ⟨o, e, _⟩ := T.obj _ _ st7 b hb
          exact (pin' b hb o e).2
      cases b with
      | false =>
        simp only [Bool.false_eq_true, if_false] at q9 ⊢
        exact fin I9 q9
      | true =>
        simp only [if_true] at q9 ⊢
        refine thnF (pe _ s9 σ8 H9 _ I9 q9) fun z s10 ⟨yv, H10, I10, r10, acc, hD10, hz10, nx⟩ => ?_
        exact BBe (X := X.blk s3 H3 scope ce fp) I10 hD10 hz10 r10 fun s11 I11 => fin I11 nx
  exact codeAny_compStart_list loop (T.self X.A 0 _ _ _ st4 loop)
theorem A29 {i : Nat} {y : Str} {py : Pos} {elt tg iter : Expr} {ifs : List Expr} {scope : Scope} {own : List (Str × Nat)} {pos spos : Pos} {wi : TI} {g : TG} {tt : TT} {te : TE} (hc : X.calm = true) (hN : X.N.Nodup) (hy : X.N[i]? = some y) (hyl : X.env.scope.names.lookup y = some .local)
    (hsw : swapsWith (.ListComp elt [⟨tg, iter, ifs, 0⟩] scope pos) (some (.Name y py)) spos.line X.env = pure true) (hi : PI X tg iter wi) (ok : A7p X.N X.env.scope scope own)
    (hg : ∀ (s : Shared) (H : Hp) (C : Addr) (cl : List (Str × Addr)) (fp : List Addr), PG (X.blk s H scope (compEnvC scope cl C X.env) fp) tg g) (ht : ∀ (s : Shared) (H : Hp) (C : Addr) (cl : List (Str × Addr)) (fp : List Addr), PTs (X.blk s H scope (compEnvC scope cl C X.env) fp) ifs tt)
    (he : ∀ (s : Shared) (H : Hp) (C : Addr) (cl : List (Str × Addr)) (fp : List Addr), PE (X.blk s H scope (compEnvC scope cl C X.env) fp) elt te) (hs : ∀ x, foldedSetIterable iter X.env x = pure x := by intro _; rfl) :
    PS X (.Assign [.Name y py] (.ListComp elt [⟨tg, iter, ifs, 0⟩] scope pos) spos) (tAsg (tLc wi g tt te (own.map (·.2))) (A1t i)) := by
  intro pins s σ H D I h
  rw [exec_Assign_Name_used _ _ _ _ hsw]
  refine wpAny_bind (wpAny_standAt (wpAny_bind ?_))
  show wpAny _ X.A (do let _ ← comprehension (.ListComp elt [⟨tg, iter, ifs, 0⟩] scope pos) scope X.env (firstIterPos [⟨tg, iter, ifs, 0⟩] pos) (newList []) false (eval iter X.env) (some (assign (.Name y py) X.env))) _ _ s
  have h : tLc wi g tt te (own.map (·.2)) σ H (fun x H1 => A1t i x σ H1 D.nx) := h
  refine wpAny_bind (thn (A6z (Qf := fun _ s' => SP X pins D .next s') hc hN I hi ok hg ht he hs h fun L C s' m H' I' q hn f => ?_) fun _ s' hq => wpAny_pure (wpAny_pure hq))
  show wpAny _ _ (assign (.Name y py) X.env (.ref L)) _ _ _
  refine wpAny_assign_Name (AR0 (v := V.ref L) I' hN hy (.inl hyl) rfl (fun s2 I2 ⟨a, sb, ha⟩ => ?_) (.inr hyl))
  obtain ⟨f0, f1, f2, f3, f4, f5⟩ := f
  have haC : C ≠ a := by
    rcases ha with z | z
    · rw [z]; exact f1
    · exact fun e => f4 y a z e.symm
  refine ⟨m, hn.sameBut sb haC, fun h3 sb3 => ?_⟩
  exact ⟨_, H', I2.turned (t' := s2.toks) (fun b o hb e => (sb3.2 b hb).trans e) f0 f1 f3 f4 f5, q⟩
theorem A7i {elt : Expr} {gs : List Comprehension} {scope : Scope} {pos py : Pos} {y : Str} {l : Nat} {env : Env} (hk : env.scope.kind = .function) (hy : env.scope.names.lookup y = some .local) (hl : (py.line == pos.line) = true)
    (ha : (scope.names.any fun (n, k) => n == y && (k == .local || k == .cell)) = false) : swapsWith (.ListComp elt gs scope pos) (some (.Name y py)) l env = pure true := by
  have ky : env.kindOf y = some .local := hy
  have hb : env.blockKind = .function := by unfold Env.blockKind; rw [hk]; rfl
  unfold swapsWith
  simp only [hb, ky, ha, Expr.pos, hl]
  rfl
end
theorem A3f {lo : Int} {n : Nat} {g : TG} {tt : TT} {te : TE} {vs : List Nat} {σ : St} {H1 : Hp} {D : Addr} {Qd : Hp → Prop} (Pv : Nat → Hp → Prop) (h0 : Pv 0 (upd H1 D (.lst [])))
    (hs : ∀ i H, i < n → Pv i H → g (.int (lo + i)) (wipe σ vs) H fun σ2 H2 => wipe σ2 vs = wipe σ vs ∧ tt σ2 H2 fun b H3 =>
      if b = true then te σ2 H3 fun y H4 => ∃ acc, H4 D = some (.lst acc) ∧ acc.length < sizeLine ∧ Pv (i + 1) (upd H4 D (.lst (acc ++ [y]))) else Pv (i + 1) H3) (hd : ∀ H, Pv n H → Qd H) :
    ∃ W : Nat → Nat → Hp → Prop, (∃ m, W 0 m (upd H1 D (.lst []))) ∧ ∀ i m H, W i m H →
      ((Itr lo n).stop i H ∧ Qd H) ∨ ((Itr lo n).go i H ∧ ∃ Nx : Hp → Prop, (∀ H', Nx H' → ∃ m', m' < m ∧ W (i + 1) m' H') ∧ ∀ x H', (Itr lo n).yld i H x H' → g x (wipe σ vs) H' fun σ2 H2 => wipe σ2 vs = wipe σ vs ∧ tt σ2 H2 fun b H3 =>
        if b = true then te σ2 H3 fun y H4 => ∃ acc, H4 D = some (.lst acc) ∧ acc.length < sizeLine ∧ Nx (upd H4 D (.lst (acc ++ [y]))) else Nx H3) := by
  refine ⟨fun i m H => m = n - i ∧ i ≤ n ∧ Pv i H, ⟨n, by simp, Nat.zero_le _, h0⟩, ?_⟩
  rintro i m H ⟨rfl, hi, p⟩
  by_cases hlt : i < n
  · refine .inr ⟨hlt, Pv (i + 1), fun H' p' => ⟨n - (i + 1), by omega, rfl, hlt, p'⟩, fun x H' y => ?_⟩
    obtain ⟨e, y⟩ := y
    subst e y
    exact hs i _ hlt p
  · have e : i = n := by omega
    subst e
    exact .inl ⟨Nat.le_refl _, hd H p⟩
noncomputable def blkC (N : List Str) (sc scope : Scope) (own : List (Str × Nat)) : Bool :=
  (match scope.kind with | .function => true | _ => false) && (scope.names.all fun y => decide (scope.names.lookup y.1 = some y.2)) && (own.all fun p => decide (N[p.2]? = some p.1)) &&
    (scope.names.all fun y => match y.2 with
      | .free => (match sc.names.lookup y.1 with | some .cell => true | some .free => true | _ => false)
      | .local => decide (y.1 ∈ own.map (·.1)) || decide (y.1 ∉ N)
      | .cell => decide (y.1 ∈ own.map (·.1)) || decide (y.1 ∉ N)
      | _ => true)
theorem A2n {N : List Str} {sc scope : Scope} {own : List (Str × Nat)} (h : blkC N sc scope own = true) : A7p N sc scope own := by
  unfold blkC at h
  simp only [Bool.and_eq_true, List.all_eq_true, decide_eq_true_eq] at h
  obtain ⟨⟨⟨h1, h2⟩, h3⟩, h4⟩ := h
  refine ⟨?_, h2, h3, fun y hy e => ?_, fun y hy e => ?_⟩
  · split at h1
    · assumption
    · cases h1
  · have q := h4 y hy
    simp only [e] at q
    split at q <;> first | exact .inl (by assumption) | exact .inr (by assumption) | cases q
  · have q := h4 y hy
    rcases e with e | e <;> (simp only [e, Bool.or_eq_true, decide_eq_true_eq] at q; exact q)
end L2
namespace L2
open PySem PySem.Spec PyProof.Rows
section
variable {prog : Program} {w : World} {A : Around} {R : Result → Shared → Prop} {s : Shared} {elt t0 i0 t1 i1 : Expr} {ifs0 ifs1 : List Expr} {scope : Scope} {pos : Pos} {it acc : Value} {env : Env}
end
section
variable {X : Cx}
end
end L2
namespace L2
open PySem PySem.Spec PyProof.Rows
section
variable {κ : Type} [DecidableEq κ]
noncomputable def valV (kvs : List (κ × V)) (k : κ) : Option V := (kvs.find? fun kv => decide (kv.1 = k)).map (·.2)
noncomputable def putK (kvs : List (κ × V)) (k : κ) (v : V) : List (κ × V) :=
  if (kvs.any fun kv => decide (kv.1 = k)) = true then kvs.map (fun kv => if kv.1 = k then (kv.1, v) else kv) else kvs ++ [(k, v)]
theorem AI0 {p : κ × V} {r : List (κ × V)} {k : κ} (e : p.1 = k) : valV (p :: r) k = some p.2 := by simp [valV, List.find?_cons, e]
theorem AJh {p : κ × V} {r : List (κ × V)} {k : κ} (e : ¬ p.1 = k) : valV (p :: r) k = valV r k := by simp [valV, List.find?_cons, e]
theorem ANj (k : κ) : ∀ kvs : List (κ × V), (kvs.any fun kv => decide (kv.1 = k)) = (valV kvs k).isSome
  | [] => rfl
  | p :: r => by
    rw [List.any_cons]
    by_cases e : p.1 = k
    · simp only [AI0 e, decide_eq_true e, Bool.true_or, Option.isSome_some]
    · rw [AJh e, decide_eq_false e, Bool.false_or]; exact ANj k r
theorem AIx (kvs : List (κ × V)) (k : κ) (v : V) : (putK kvs k v).length ≤ kvs.length + 1 := by
  unfold putK
  split
  · rw [List.length_map]; omega
  · rw [List.length_append, List.length_cons, List.length_nil]; omega
theorem RelO.isSome_eq {o : Option V} {u : Option Value} (r : RelO o u) : o.isSome = u.isSome := by
  cases o with
  | none => cases u with
    | none => rfl
    | some _ => exact (show False from r).elim
  | some _ => cases u with
    | none => exact (show False from r).elim
    | some _ => rfl
theorem KV.val {kvs : List (κ × V)} {vs : List (κ × Value)} (r : KV kvs vs) (k : κ) : RelO (valV kvs k) (valueAt vs k) := by
  unfold KV at r
  induction r with
  | nil => exact True.intro
  | @cons p q ps qs h t ih =>
    obtain ⟨h1, h2⟩ := h
    by_cases e : p.1 = k
    · have e' : q.1 = k := h1.symm.trans e
      have b : valueAt (q :: qs) k = some q.2 := by simp [valueAt, List.find?_cons, e']
      rw [AI0 e, b]; exact h2
    · have e' : ¬ q.1 = k := fun z => e (h1.trans z)
      have b : valueAt (q :: qs) k = valueAt qs k := by simp [valueAt, List.find?_cons, e']
      rw [AJh e, b]; exact ih
theorem KV.any {kvs : List (κ × V)} {vs : List (κ × Value)} (r : KV kvs vs) (k : κ) : (kvs.any fun kv => decide (kv.1 = k)) = vs.any fun kv => decide (kv.1 = k) := by
  unfold KV at r
  induction r with
  | nil => rfl
  | cons h t ih => rw [List.any_cons, List.any_cons, ih, h.1]
theorem KV.repl {kvs : List (κ × V)} {vs : List (κ × Value)} (r : KV kvs vs) (k : κ) {y : V} {u : Value} (ry : RelV y u) :
    KV (kvs.map fun kv => if kv.1 = k then (kv.1, y) else kv) (vs.map fun kv => if kv.1 = k then (kv.1, u) else kv) := by
  unfold KV at r ⊢
  induction r with
  | nil => exact .nil
  | @cons p q ps qs h t ih =>
    rw [List.map_cons, List.map_cons]
    refine .cons ?_ ih
    obtain ⟨h1, h2⟩ := h
    by_cases e : p.1 = k
    · rw [if_pos e, if_pos (h1.symm.trans e)]; exact ⟨h1, ry⟩
    · rw [if_neg e, if_neg (fun z => e (h1.trans z))]; exact ⟨h1, h2⟩
theorem KV.put {kvs : List (κ × V)} {vs : List (κ × Value)} (r : KV kvs vs) (k : κ) {y : V} {u : Value} (ry : RelV y u) : KV (putK kvs k y) (stored vs k u) := by
  unfold putK stored
  rw [r.any k]
  by_cases e : (vs.any fun kv => decide (kv.1 = k)) = true
  · rw [if_pos e, if_pos e]; exact r.repl k ry
  · rw [if_neg e, if_neg e]; exact Paired.snoc r ⟨rfl, ry⟩
theorem KV.keys {kvs : List (κ × V)} {vs : List (κ × Value)} (r : KV kvs vs) : kvs.map (·.1) = vs.map (·.1) := by
  unfold KV at r
  induction r with
  | nil => rfl
  | cons h t ih => rw [List.map_cons, List.map_cons, ih, h.1]
theorem KV.length {kvs : List (κ × V)} {vs : List (κ × Value)} (r : KV kvs vs) : kvs.length = vs.length := Paired.length r
end
theorem A65 {P : Program} {w : World} {k : Key} {u : Value} (r : RelV (kV k) u) : (AD3 P w).is k u = true := by
  cases k with
  | inl i => obtain ⟨t, e⟩ := (show ∃ t, u = Value.int i t from r); subst e; exact ASw P w i t
  | inr x => obtain ⟨t, e⟩ := (show ∃ t, u = Value.str x t from r); subst e; exact AR6 P w x t
theorem ARr {P : Program} {w : World} : ∀ {ks : List Key} {us : List Value}, Vals (ks.map kV) us → ItemsAre (AD3 P w) ks us
  | [], _, r => by rw [List.map_nil] at r; cases r; exact .nil
  | k :: ks, _, r => by
    rw [List.map_cons] at r
    cases r with
    | cons h t => exact .cons (A65 h) (ARr t)
noncomputable abbrev KT (H : Hp) : List (List Key × V) → List (List Key × Addr × Value) → Prop := Paired fun p q => p.1 = q.1 ∧ H q.2.1 = some (.tup (p.1.map kV)) ∧ RelV p.2 q.2.2
theorem KT.val {H : Hp} {kvs : List (List Key × V)} {xs : List (List Key × Addr × Value)} (r : KT H kvs xs) (k : List Key) : RelO (valV kvs k) ((atKey xs k).map (·.2)) := by
  induction r with
  | nil => exact True.intro
  | @cons p q ps qs h t ih =>
    obtain ⟨h1, _, h2⟩ := h
    by_cases e : p.1 = k
    · have e' : q.1 = k := h1.symm.trans e
      have b : atKey (q :: qs) k = some q.2 := by simp [atKey, List.find?_cons, e']
      rw [AI0 e, b]; exact h2
    · have e' : ¬ q.1 = k := fun z => e (h1.trans z)
      have b : atKey (q :: qs) k = atKey qs k := by simp [atKey, List.find?_cons, e']
      rw [AJh e, b]; exact ih
theorem KT.repl {H : Hp} {kvs : List (List Key × V)} {xs : List (List Key × Addr × Value)} (r : KT H kvs xs) (k : List Key) {y : V} {u : Value} (ry : RelV y u) :
    KT H (kvs.map fun kv => if kv.1 = k then (kv.1, y) else kv) (xs.map (putAt k u)) := by
  induction r with
  | nil => exact .nil
  | @cons p q ps qs h t ih =>
    rw [List.map_cons, List.map_cons]
    refine .cons ?_ ih
    obtain ⟨h1, h2, h3⟩ := h
    unfold putAt
    by_cases e : p.1 = k
    · rw [if_pos e, if_pos (h1.symm.trans e)]; exact ⟨h1, h2, ry⟩
    · rw [if_neg e, if_neg (fun z => e (h1.trans z))]; exact ⟨h1, h2, h3⟩
theorem KT.put {H : Hp} {kvs : List (List Key × V)} {xs : List (List Key × Addr × Value)} (r : KT H kvs xs) (k : List Key) {b : Addr} {y : V} {u : Value} (hb : H b = some (.tup (k.map kV))) (ry : RelV y u) :
    KT H (putK kvs k y) (storedH xs k b u) := by
  have e : (kvs.any fun kv => decide (kv.1 = k)) = (atKey xs k).isSome := by
    rw [ANj, (r.val k).isSome_eq, Option.isSome_map]
  unfold putK storedH
  rw [e]
  by_cases q : (atKey xs k).isSome = true
  · rw [if_pos q, if_pos q]; exact r.repl k ry
  · rw [if_neg q, if_neg q]; exact Paired.snoc r ⟨rfl, hb, ry⟩
theorem KT.keeps {H H' : Hp} {kvs : List (List Key × V)} {xs : List (List Key × Addr × Value)} (r : KT H kvs xs) (ht : ∀ b ys, H b = some (.tup ys) → H' b = some (.tup ys)) : KT H' kvs xs :=
  Paired.mapP r fun _ _ z => ⟨z.1, ht _ _ z.2.1, z.2.2⟩
section
variable {P : Program} {w : World} {H : Hp} {h : Heap} {a : Addr}
theorem BEm {u : HO} (ok : HOk P w H h) (e : Rd H a u) : ALd P w H h a u := e.ok ok
theorem A8m {kvs : List (Key × V)} (ok : HOk P w H h) (e : Rd H a (.dK kvs)) : kvs.length ≤ sizeLine ∧ (a == sysModules) = false ∧ ∃ vs, KV kvs vs ∧ h.DictOf (AD3 P w) a vs :=
  show ALd P w H h a (.dK kvs) from BEm ok e
theorem BDl {kvs : List (Key × V)} (ok : HOk P w H h) (e : H a = some (.dK kvs)) : kvs.length ≤ sizeLine ∧ (a == sysModules) = false ∧ ∃ vs, KV kvs vs ∧ h.DictOf (AD3 P w) a vs := A8m ok (.inl e)
theorem AX8 {ks : List Key} (ok : HOk P w H h) (e : H a = some (.tup (ks.map kV))) : (tupleKind (AD3 P w)).is h ks a := by
  obtain ⟨_, its, r, o, h1, h2, n, h3⟩ := (show ALd P w H h a (.tup (ks.map kV)) from ok a _ e)
  exact ⟨o, its.toArray, n, h1, h2, h3, by simpa using ARr r⟩
theorem A6l {kvs : List (List Key × V)} (ok : HOk P w H h) (e : Rd H a (.dT kvs)) : kvs.length ≤ sizeLine ∧ (a == sysModules) = false ∧
    ∃ xs, KT H kvs xs ∧ h.DictOfH (tupleKind (AD3 P w)) a xs := by
  obtain ⟨z, y, xs, r, o, es, ep, h1, h2, h3, h4, h5⟩ := (show ALd P w H h a (.dT kvs) from BEm ok e)
  refine ⟨z, y, xs, r, o, es, ep, h1, h2, h3, h4, fun x hx => ?_, h5⟩
  have all : ∀ {l : List (List Key × V)} {m : List (List Key × Addr × Value)}, KT H l m → ∀ x ∈ m, (tupleKind (AD3 P w)).is h x.1 x.2.1 := by
    intro l m q
    induction q with
    | nil => intro x hx; exact nomatch hx
    | @cons p q ps qs hq t ih =>
      intro x hx
      rcases List.mem_cons.mp hx with e | hx
      · subst e
        exact AX8 ok (by rw [← hq.1]; exact hq.2.1)
      · exact ih x hx
  exact all r x hx
theorem dt_of {kvs : List (List Key × V)} (ok : HOk P w H h) (e : H a = some (.dT kvs)) : kvs.length ≤ sizeLine ∧ (a == sysModules) = false ∧
    ∃ xs, KT H kvs xs ∧ h.DictOfH (tupleKind (AD3 P w)) a xs := A6l ok (.inl e)
end
noncomputable def DGet (H : Hp) (a : Addr) (y : V) (r : Option V) : Prop :=
  (∃ kvs k, Rd H a (.dK kvs) ∧ y = kV k ∧ r = valV kvs k) ∨ ∃ kvs k b, Rd H a (.dT kvs) ∧ y = .ref b ∧ H b = some (.tup (k.map kV)) ∧ r = valV kvs k
noncomputable def DPut (H : Hp) (a : Addr) (y v : V) (H' : Hp) : Prop :=
  (∃ kvs k, H a = some (.dK kvs) ∧ y = kV k ∧ kvs.length < sizeLine ∧ H' = upd H a (.dK (putK kvs k v))) ∨
  ∃ kvs k b, H a = some (.dT kvs) ∧ y = .ref b ∧ H b = some (.tup (k.map kV)) ∧ kvs.length < sizeLine ∧ H' = upd H a (.dT (putK kvs k v))
section
variable {X : Cx} {pins : List (Addr × Obj)} {σ : St} {H : Hp} {s : Shared} {a : Addr} {y v : V} {u r : Value} {o : Option V} {A : Around} {E : Value → Shared → Prop}
theorem Inv.big (I : Inv X pins σ H s) : sysModules < s.heap.objs.size := by
  have h : mainGlobals < s.heap.objs.size := (I.mod.glob.keeps I.bk).lt
  exact Nat.lt_trans (by decide) h
theorem AZq {Q : Value → Shared → Prop} (hu : A.units + 1 < cLine) (I : Inv X pins σ H s) (g : DGet H a y (some v)) (ry : RelV y u) (h : ∀ w' s', Inv X pins σ H s' → RelV v w' → Q w' s') :
    wpAny (model X.prog X.w) A (getItem (.ref a) u) Q E s := by
  rcases g with ⟨kvs, k, e, ey, l⟩ | ⟨kvs, k, b, e, ey, eb, l⟩
  · subst ey
    obtain ⟨z, hd, vs, rel, dd⟩ := A8m I.hok e
    obtain ⟨w', hw, rw'⟩ := RelO.some_of (v := v) (o := valueAt vs k) (by rw [l]; exact rel.val k)
    exact wpAny_getItem_of (A65 ry) dd.mapOf hw (h w' _ (I.tok _) rw')
  · subst ey
    cases (show u = Value.ref b from ry)
    obtain ⟨z, hd, xs, rel, dd⟩ := A6l I.hok e
    obtain ⟨w', hw, rw'⟩ := RelO.some_of (v := v) (o := (atKey xs k).map (·.2)) (by rw [l]; exact rel.val k)
    obtain ⟨p, hp, hp2⟩ := Option.map_eq_some_iff.mp hw
    refine wpAny_getItem_heap (tupleKind_room_in1 hu) (AX8 I.hok eb) dd hp ?_
    rw [hp2]
    exact h w' _ (I.tok _) rw'
theorem d_in {Q : Value → Shared → Prop} (hu : A.units + 1 < cLine) (I : Inv X pins σ H s) (g : DGet H a y o) (ry : RelV y u) (h : ∀ s', Inv X pins σ H s' → Q (.bool o.isSome) s') :
    wpAny (model X.prog X.w) A (compareOp .In u (.ref a)) Q E s := by
  rcases g with ⟨kvs, k, e, ey, l⟩ | ⟨kvs, k, b, e, ey, eb, l⟩
  · subst ey
    obtain ⟨z, hd, vs, rel, dd⟩ := A8m I.hok e
    refine wpAny_in_of (A65 ry) hd dd.mapOf ?_
    rw [← (rel.val k).isSome_eq, ← l]
    exact h _ (I.tok _)
  · subst ey
    cases (show u = Value.ref b from ry)
    obtain ⟨z, hd, xs, rel, dd⟩ := A6l I.hok e
    refine wpAny_in_heap (tupleKind_room_in1 hu) (AX8 I.hok eb) hd dd ?_
    have q := (rel.val k).isSome_eq
    rw [Option.isSome_map] at q
    rw [← q, ← l]
    exact h _ (I.tok _)
theorem AUu {h' : Heap} {t' : Nat} {ob : HO} (I : Inv X pins σ H s) (mu : Mut (H a)) (hs : Heap.SameBut a s.heap h') (he : ∃ q, h'.get? a = some q) (new : ALd X.prog X.w (upd H a ob) h' a ob) :
    Inv X pins σ (upd H a ob) { s with heap := h', toks := t' } :=
  I.write (x := a) (e := a) mu (.inl rfl) (fun b q hb z => (hs.2 b hb).trans z) he new
theorem A6v {P : Program} {w : World} {H' : Hp} {h' : Heap} {kvs : List (Key × V)} {vs : List (Key × Value)} (z : kvs.length ≤ sizeLine) (hd : (a == sysModules) = false) (rel : KV kvs vs) (dd : h'.DictOf (AD3 P w) a vs) :
    ALd P w H' h' a (.dK kvs) := ⟨z, hd, vs, rel, dd⟩
theorem AYw {H' : Hp} {Q : Unit → Shared → Prop} (hu : A.units + 1 < cLine) (I : Inv X pins σ H s) (g : DPut H a y v H') (ry : RelV y u) (rv : RelV v r) (h : ∀ s', Inv X pins σ H' s' → Q () s') :
    wpAny (model X.prog X.w) A (setItem (.ref a) u r) Q E s := by
  rcases g with ⟨kvs, k, e, ey, l, eH⟩ | ⟨kvs, k, b, e, ey, eb, l, eH⟩
  · subst ey eH
    obtain ⟨z, hd, vs, rel, dd⟩ := BDl I.hok e
    have hz : vs.length ≤ sizeLine := by rw [← rel.length]; exact z
    have hl : (putK kvs k v).length ≤ sizeLine := by have := AIx kvs k v; omega
    refine wpAny_setItem_pairs (hsz := hz) (A65 ry) dd fun h' dd' hs => h _ ?_
    have he : ∃ q, h'.get? a = some q := let ⟨q, _, _, hq, _⟩ := dd'; ⟨q, hq⟩
    exact AUu I (by rw [e]; exact True.intro) hs he (A6v hl hd (rel.put k rv) dd')
  · subst ey eH
    cases (show u = Value.ref b from ry)
    obtain ⟨z, hd, xs, rel, dd⟩ := dt_of I.hok e
    have hz : xs.length ≤ sizeLine := by rw [← Paired.length rel]; exact z
    have hl : (putK kvs k v).length ≤ sizeLine := by have := AIx kvs k v; omega
    refine wpAny_setItem_heap (hsz := hz) (tupleKind_room_in1 hu) (AX8 I.hok eb) dd fun h' dd' hs => h _ ?_
    obtain ⟨q, es, ep, hq, h2, h3, h4, _, h5⟩ := dd'
    refine AUu I (by rw [e]; exact True.intro) hs ⟨q, hq⟩ ⟨hl, hd, _, (rel.put k eb rv).keeps fun c ys ec => ?_, q, es, ep, hq, h2, h3, h4, h5⟩
    rw [ABi (APe ec e (fun z => nomatch z))]
    exact ec
end
section
variable {X : Cx} {pins : List (Addr × Obj)} {σ : St} {H : Hp} {s : Shared} {a : Addr} {kvs : List (Key × V)} {k : Key} {u : Value} {A : Around} {E : Value → Shared → Prop}
end
noncomputable def NoSl (i : Expr) : Prop := ∀ ov iv, subscripted i false ov iv = operate [ov, iv] (getItem ov iv)
theorem A0t {prog : Program} {w : World} {A : Around} {E : Value → Shared → Prop} {s : Shared} {env : Env} {value slice : Expr} {pos : Pos} {T id : String} {Q : Value → Shared → Prop}
    (hl : typeLookup (.type T) "__getitem__" = pure (some (.builtin id))) (hs : NoSl slice)
    (h : wpAny (model prog w) A (eval value env) (fun o s₁ => wpAny (model prog w) A (eval slice env) (fun i s₂ => s₂.TypeIs o T ∧ wpAny (model prog w) A (getItem o i) Q E s₂) E s₁) E s) :
    wpAny (model prog w) A (eval (.Subscript value slice pos) env) Q E s := by
  refine Subscript_ (wpAny_mono h (fun o s₁ h₁ => wpAny_mono h₁ (fun i s₂ h₂ => ?_) fun _ _ x => x) fun _ _ x => x)
  obtain ⟨hT, h₂⟩ := h₂
  unfold subscriptTail
  refine wpAny_bind ?_
  rw [getitemInPython_of_ne hT.not_modules]
  refine wpAny_bind (wpAny_specialOf hT hl ?_)
  have fin : wpAny (model prog w) A (subscripted slice false o i) (fun r s₃ => wpAny (model prog w) A (letTemporaryGo value o r >>= fun _ => pure r) Q E s₃) E s₂ := by
    rw [hs o i]
    exact wpAny_operating (wpAny_mono h₂ (fun r s₃ h₃ => wpAny_bind (wpAny_letTemporaryGo (wpAny_pure h₃))) fun _ _ x => x)
  first
    | exact wpAny_pure (wpAny_bind fin)
    | exact wpAny_bind (wpAny_pure (wpAny_bind fin))
    | exact wpAny_bind fin
theorem ASt {X : Cx} {pins : List (Addr × Obj)} {σ : St} {H : Hp} {s : Shared} {a : Addr} {y : V} {o : Option V} (I : Inv X pins σ H s) (g : DGet H a y o) : s.TypeIs (.ref a) "dict" := by
  rcases g with ⟨kvs, k, e, _, _⟩ | ⟨kvs, k, b, e, _, _, _⟩
  · obtain ⟨_, _, vs, _, dd⟩ := A8m I.hok e
    exact dd.typeIs
  · obtain ⟨_, _, xs, _, dd⟩ := A6l I.hok e
    exact dd.typeIs
noncomputable def BEp (td ty : TE) : TE := fun σ H Q => td σ H fun x H1 => ty σ H1 fun y H2 => ∃ a v, x = .ref a ∧ DGet H2 a y (some v) ∧ Q v H2
noncomputable def tDIn (ty td : TE) : TE := fun σ H Q => ty σ H fun y H1 => td σ H1 fun x H2 => ∃ a o, x = .ref a ∧ DGet H2 a y o ∧ Q (.bl o.isSome) H2
noncomputable def sDPut (td ty tv : TE) : TS := fun D σ H => tv σ H fun v H1 => td σ H1 fun x H2 => ty σ H2 fun y H3 => ∃ a H4, x = .ref a ∧ DPut H3 a y v H4 ∧ D.nx σ H4
section
variable {X : Cx} {o i e value : Expr} {pos pos' tpos : Pos} {td ty tv : TE}
theorem A1k (hu : X.A.units + 1 < cLine) (ho : PE X o td) (hi : PE X i ty) (hs : NoSl i) : PE X (.Subscript o i pos) (BEp td ty) := by
  intro pins s σ H Q I h
  refine A0t PySem.F.slot_dict_getitem.lookup hs (thn (ho pins s σ H _ I h) fun u s1 ⟨x, H1, I1, rx, q1⟩ => thn (hi pins s1 σ H1 _ I1 q1) fun iv s2 ⟨y, H2, I2, ry, a, v, ex, g, q2⟩ => ?_)
  subst ex
  obtain rfl : u = Value.ref a := rx
  exact ⟨ASt I2 g, AZq hu I2 g ry fun w' s3 I3 rw' => ⟨v, H2, I3, rw', q2⟩⟩
theorem BCy (hu : X.A.units + 1 < cLine) (hi : PE X i ty) (ho : PE X o td) : PC X .In i o (tDIn ty td) := by
  intro pins s σ H Q I h
  refine thn (hi pins s σ H _ I h) fun iv s1 ⟨y, H1, I1, ry, q1⟩ => thn (ho pins s1 σ H1 _ I1 q1) fun u s2 ⟨x, H2, I2, rx, a, ov, ex, g, q2⟩ => ?_
  subst ex
  obtain rfl : u = Value.ref a := rx
  exact d_in hu I2 g ry fun s3 I3 => ⟨.bl ov.isSome, H2, I3, rfl, q2⟩
theorem A8f (hu : X.A.units + 1 < cLine) (ho : PE X o td) (hi : PE X i ty) (hv : PE X value tv) (hs : swapsWith value (some (.Subscript o i pos')) pos.line X.env = pure false) :
    PS X (.Assign [.Subscript o i pos'] value pos) (sDPut td ty tv) := by
  intro pins s σ H D I h
  refine wpAny_Assign_Subscript (thn (hv pins s σ H _ I h) fun r s1 ⟨v, H1, I1, rv, q1⟩ => thn (ho pins s1 σ H1 _ I1 q1) fun u s2 ⟨x, H2, I2, rx, q2⟩ => thn (hi pins s2 σ H2 _ I2 q2) fun iv s3 ⟨y, H3, I3, ry, a, H4, ex, g, q3⟩ => ?_) hs
  subst ex
  obtain rfl : u = Value.ref a := rx
  exact AYw hu I3 g ry rv fun s4 I4 => ⟨σ, H4, I4, q3⟩
end
theorem A3m {P : Program} {w : World} {H : Hp} (h : Heap) (hb : sysModules < h.objs.size) : ALd P w H (h.push { cls := .type "dict", data := .dict #[] }) h.objs.size (.dK []) :=
  ⟨Nat.zero_le _, beq_eq_false_iff_ne.mpr (Ne.symm (Nat.ne_of_lt hb)), [], .nil, Heap.DictOf.new h⟩
noncomputable def A7e : TE := fun _ H Q => ∀ p, H p = none → Q (.ref p) (upd H p (.dK []))
section
variable {X : Cx} {pos : Pos}
theorem AW6 : PE X (.Dict [] [] pos) A7e := fun pins s σ H Q I h =>
  wpAny_Dict_empty ⟨.ref s.heap.objs.size, _, I.laid (a := s.heap.objs.size) (o := .dK []) (t' := s.toks) (fun _ _ q => Heap.get?_push_of_some _ q) (Nat.le_refl _) (A3m s.heap I.big), rfl, h _ (I.hok.fresh (Nat.le_refl _))⟩
end
structure M2 (X : Cx) (o : Expr) (m : Str) (apos : Pos) (e f : Expr) (cpos : Pos) : Prop where
  base : attributeBase o m X.env (eval o X.env) = eval o X.env
  few : ((backTo cpos (starEach [e, f] X.env)).all (fun x => !x.1) && (backToKw cpos (keywordEach [] X.env)).all (fun x => x.1.isSome)
    && decide (([e, f] : List Expr).length + ([] : List Keyword).length + (if ([] : List Keyword).isEmpty then 0 else 1) < 30)) = true
  line : (apos.endLine == cpos.line) = true
  trees : backTo cpos (starEach [e, f] X.env) = [(false, eval e X.env), (false, eval f X.env)]
noncomputable def IsD (H : Hp) (a : Addr) : Prop := (∃ kvs, Rd H a (.dK kvs)) ∨ ∃ kvs, Rd H a (.dT kvs)
theorem BBc {X : Cx} {pins : List (Addr × Obj)} {σ : St} {H : Hp} {s : Shared} {a : Addr} (I : Inv X pins σ H s) (d : IsD H a) :
    s.TypeIs (.ref a) "dict" ∧ (∀ b, Value.ref a = .ref b → ∃ ob, s.heap.get? b = some ob ∧ ob.dict = none) ∧ (a == sysModules) = false := by
  rcases d with ⟨kvs, e⟩ | ⟨kvs, e⟩
  · obtain ⟨_, hd, vs, _, dd⟩ := A8m I.hok e
    refine ⟨dd.typeIs, fun b q => ?_, hd⟩
    cases q
    obtain ⟨ob, _, _, h1, h2, _⟩ := dd
    exact ⟨ob, h1, h2.2.1⟩
  · obtain ⟨_, hd, xs, _, dd⟩ := A6l I.hok e
    refine ⟨dd.typeIs, fun b q => ?_, hd⟩
    cases q
    obtain ⟨ob, _, _, h1, h2, _⟩ := dd
    exact ⟨ob, h1, h2.2.1⟩
section
variable {X : Cx} {pins : List (Addr × Obj)} {σ : St} {H : Hp} {s : Shared} {a : Addr} {y d : V} {u r : Value} {o : Option V} {A : Around} {E : Value → Shared → Prop}
end
section
variable {X : Cx} {o e f : Expr} {apos cpos : Pos} {td ty tx : TE}
end
section
variable {X : Cx} {pins : List (Addr × Obj)} {σ : St} {H : Hp} {s : Shared} {a : Addr} {kvs : List (Key × V)} {A : Around} {E : Value → Shared → Prop}
end
section
variable {X : Cx} {pins : List (Addr × Obj)} {σ : St} {H : Hp} {s : Shared} {a : Addr} {y : V} {u : Value} {A : Around} {E : Value → Shared → Prop}
end
end L2
namespace L2
open PySem PySem.Spec PyProof.Rows
section
variable {prog : Program} {w : World} {A : Around} {E : Value → Shared → Prop}
end
section
variable {X : Cx}
end
end L2
namespace L2
open PySem PySem.Spec PyProof.Rows
section
variable {X : Cx} {pins : List (Addr × Obj)} {σ : St} {H : Hp} {s : Shared} {h' : Heap}
theorem Inv.turnedL {t' : Nat} {ch : List Addr} (I : Inv X pins σ H s) (k : ∀ b o, b ∉ ch → s.heap.get? b = some o → h'.get? b = some o) (hf : ∀ b ∈ ch, FpOk X pins H b) : Inv X pins σ H { s with heap := h', toks := t' } := by
  have nit : ∀ b u, H b = some u → b ∉ ch := fun b u e z => by
    have q := (hf b z).1
    rw [q] at e; cases e
  refine I.step (g' := s.gens) (d' := s.drawn) (ch := ch) (fun b hb => ⟨(hf b hb).2.2.2.1, (hf b hb).2.1, (hf b hb).2.2.2.2.1, (hf b hb).2.2.2.2.2⟩) (fun b o _ _ hc e _ => k b o hc e) (fun b o _ _ hc e _ => ⟨o.slots, k b o hc e⟩)
    (fun _ _ _ _ n => n) (fun b o hc e => ⟨o, k b o hc e⟩) (fun _ _ e => e) (fun _ _ _ e => e) (fun b ps e => ⟨#[], by rw [e]; simp⟩) (fun m hm => ?_) (fun b u e => ?_) I.bare
  · obtain ⟨o, es, ep, ho, r⟩ := hm
    exact ⟨o, es, ep, k _ o (fun z => (hf _ z).2.1 rfl) ho, r⟩
  · refine (I.hok b u e).stay (fun c v hc q => k c v ?_ q) (fun _ q => q) fun _ _ q => q
    rcases hc with z | z
    · rw [z]; exact nit b u e
    · exact nit c _ z
theorem Inv.turnedNew {t' : Nat} {ch : List Addr} {T : Addr} {ob : HO} (I : Inv X pins σ H s) (k : ∀ b o, b ∉ ch → s.heap.get? b = some o → h'.get? b = some o) (hf : ∀ b ∈ ch, FpOk X pins H b) (hT : s.heap.objs.size ≤ T)
    (new : ALd X.prog X.w (upd H T ob) h' T ob) : Inv X pins σ (upd H T ob) { s with heap := h', toks := t' } := by
  have hn : H T = none := I.hok.fresh hT
  have nit : ∀ b u, H b = some u → b ∉ ch := fun b u e z => by
    have q := (hf b z).1
    rw [q] at e; cases e
  refine I.step (g' := s.gens) (d' := s.drawn) (ch := ch) (fun b hb => ⟨(hf b hb).2.2.2.1, (hf b hb).2.1, (hf b hb).2.2.2.2.1, (hf b hb).2.2.2.2.2⟩) (fun b o _ _ hc e _ => k b o hc e) (fun b o _ _ hc e _ => ⟨o.slots, k b o hc e⟩)
    (fun b o _ e n => ?_) (fun b o hc e => ⟨o, k b o hc e⟩) (fun b xs e => ?_) (fun b o u e => ?_) (fun b ps e => ⟨#[], ?_⟩) (fun m hm => ?_) (fun b u e => ?_) I.bare
  · rw [ABi (Nat.ne_of_lt (Nat.lt_of_lt_of_le (Heap.lt_size e) hT))]; exact n
  · rw [ABi (ACb e hn)]; exact e
  · rw [ABi (ACb e hn)]; exact e
  · rw [ABi (ACb e hn), e]; simp
  · obtain ⟨o, es, ep, ho, r⟩ := hm
    exact ⟨o, es, ep, k _ o (fun z => (hf _ z).2.1 rfl) ho, r⟩
  · by_cases hb : b = T
    · subst hb
      rw [AAv] at e
      cases e
      exact new
    · rw [ABi hb] at e
      refine (I.hok b u e).stay (fun c v hc q => k c v ?_ q) (fun c q => by rw [ABi (ACb q hn)]; exact q) fun c xs q => by rw [ABi (ACb q hn)]; exact q
      rcases hc with z | z
      · rw [z]; exact nit b u e
      · exact nit c _ z
end
section
variable {X : Cx}
end
section
variable {X : Cx} {tg : Expr}
end
section
variable {X : Cx} {tg : Expr}
end
section
variable {prog : Program} {w : World} {A : Around} {E : Value → Shared → Prop} {s : Shared}
end
section
variable {X : Cx} {pins : List (Addr × Obj)} {σ : St} {H : Hp} {s : Shared} {d : Addr} {o : Obj}
end
section
variable {P : Program} {w : World} {K : Frag} {tg : Expr} {d : Addr} {o : Obj} {es : Array DictEntry} {ep : Nat}
end
section
variable {X : Cx} {tg e : Expr} {td : TE} {apos cpos : Pos}
end
theorem AY2 : bootBuiltins "zip" = some (.type "zip") := by decide +kernel
noncomputable def Itz (K : Frag) (a b : Addr) : It :=
  ⟨fun i H => ∃ (xs ys : List V) (x y : V), SqL K H a xs ∧ SqL K H b ys ∧ xs[i]? = some x ∧ ys[i]? = some y,
    fun i H v H' => ∃ T x y, v = .ref T ∧ H T = none ∧ H' = upd H T (.tup [x, y]) ∧ (∀ xs, SqL K H a xs → xs[i]? = some x) ∧ ∀ ys, SqL K H b ys → ys[i]? = some y,
    fun i H => ∃ xs ys : List V, SqL K H a xs ∧ SqL K H b ys ∧ (xs.length ≤ i ∨ ys.length ≤ i)⟩
theorem A4w {P : Program} {w : World} {K : Frag} {elts : List Expr} {kk : Nat} {tpos : Pos} {a b z TI TO i1 i2 : Addr} (D : ZipApart z TI TO i1 i2 a b) :
    Turn P w K (.Tuple elts kk tpos) (Itz K a b) [z, TI, TO, i1, i2] z (fun i h => IsZip h z TI TO .none ∧ IsPair h TI (.ref i1) (.ref i2) ∧ (∃ x y, IsPair h TO x y) ∧ h.IsListIter i1 a i ∧ h.IsListIter i2 b i) where
  mem := by simp
  obj := fun i h st c hc => by
    obtain ⟨hz, hTI, ⟨x, y, hTO⟩, ⟨o1, e1, _, d1⟩, ⟨o2, e2, _, d2⟩⟩ := st
    have e' : c = z ∨ c = TI ∨ c = TO ∨ c = i1 ∨ c = i2 := by simpa using hc
    rcases e' with q | q | q | q | q
    · rw [q]; exact ⟨_, hz, fun v q => nomatch q⟩
    · rw [q]; exact ⟨_, hTI, fun v q => nomatch q⟩
    · rw [q]; exact ⟨_, hTO, fun v q => nomatch q⟩
    · rw [q]; exact ⟨o1, e1, fun v q => by rw [d1] at q; cases q⟩
    · rw [q]; exact ⟨o2, e2, fun v q => by rw [d2] at q; cases q⟩
  keep := fun i h h' st k => by
    obtain ⟨hz, hTI, ⟨x, y, hTO⟩, h1, h2⟩ := st
    exact ⟨k z (by simp) _ hz, k TI (by simp) _ hTI, ⟨x, y, k TO (by simp) _ hTO⟩, h1.at fun o q => k i1 (by simp) o q, h2.at fun o q => k i2 (by simp) o q⟩
  item := by
    intro X hP hw hK hc i pins s σ H E I hf st hg
    subst hP hw hK
    obtain ⟨hz, hTI, ⟨x0, y0, hTO⟩, h1, h2⟩ := st
    obtain ⟨xs, ys, x, y, hqx, hqy, hx, hy⟩ := hg
    obtain ⟨its, rv, p, _⟩ := I.list hqx
    obtain ⟨its2, rv2, p2, _⟩ := I.list hqy
    obtain ⟨u, hu, ru⟩ := rv.get hx
    obtain ⟨u2, hu2, ru2⟩ := rv2.get hy
    have hzl : z < s.heap.objs.size := Heap.lt_size hz
    refine wpAny_pyNext_zip_item D hz hTI hTO h1 h2 p.isList p2.isList (x := u) (y := u2) (by simpa using hu) (by simpa using hu2) fun h' z' TO' h1' h2' hT hsz hk => ?_
    refine ⟨_, rfl, wpAny_letOwnedTupleGo_zip (s := { s with heap := h' }) z' fun h'' z'' sb => ?_⟩
    have hT2 : h''.get? s.heap.objs.size = some { cls := .type "tuple", data := .seq #[u, u2] } := (sb.2 _ (Nat.ne_of_gt hzl)).trans hT
    have new : ALd X.prog X.w (upd H s.heap.objs.size (.tup [x, y])) h'' s.heap.objs.size (.tup [x, y]) :=
      ⟨by show 2 ≤ sizeLine; decide, [u, u2], .cons ru (.cons ru2 .nil), ⟨_, hT2, rfl, _, rfl⟩⟩
    have I1 : Inv X pins σ (upd H s.heap.objs.size (.tup [x, y])) { s with heap := h'' } :=
      I.turnedNew (t' := s.toks) (ch := [z, TI, TO, i1, i2]) (fun c o hb q => (sb.2 c (fun q' => hb (by simp [q']))).trans (hk c o (fun q' => hb (by simp [q'])) (fun q' => hb (by simp [q'])) (fun q' => hb (by simp [q'])) (fun q' => hb (by simp [q'])) q)) hf (Nat.le_refl _) new
    refine ⟨.ref s.heap.objs.size, _, I1, rfl, ⟨_, x, y, rfl, I.hok.fresh (Nat.le_refl _), rfl, fun l hl => by rw [I.list_inj hl hqx]; exact hx, fun l hl => by rw [I.list_inj hl hqy]; exact hy⟩, ⟨z'', ?_, ⟨u, u2, ?_⟩, ?_, ?_⟩, fun c hcm => ?_⟩
    · exact (sb.2 _ D.TIz).trans (hk _ _ D.TIz D.TITO D.TIi1 D.TIi2 hTI)
    · exact (sb.2 _ D.TOz).trans TO'
    · exact h1'.at fun o q => (sb.2 _ D.i1z).trans q
    · exact h2'.at fun o q => (sb.2 _ D.i2z).trans q
    · have hlt : c < s.heap.objs.size := by
        have e' : c = z ∨ c = TI ∨ c = TO ∨ c = i1 ∨ c = i2 := by simpa using hcm
        rcases e' with q | q | q | q | q
        · rw [q]; exact hzl
        · rw [q]; exact Heap.lt_size hTI
        · rw [q]; exact Heap.lt_size hTO
        · rw [q]; obtain ⟨_, e1, _⟩ := h1; exact Heap.lt_size e1
        · rw [q]; obtain ⟨_, e2, _⟩ := h2; exact Heap.lt_size e2
      rw [ABi (Nat.ne_of_lt hlt)]
      exact (hf c hcm).1
  done := by
    intro X hP hw hK hc i pins s σ H E I hf st hg
    subst hP hw hK
    obtain ⟨hz, hTI, ⟨x0, y0, hTO⟩, h1, h2⟩ := st
    obtain ⟨xs, ys, hqx, hqy, hend⟩ := hg
    obtain ⟨its, rv, p, _⟩ := I.list hqx
    obtain ⟨its2, rv2, p2, _⟩ := I.list hqy
    have l1 := rv.length
    have l2 := rv2.length
    have he : its.toArray[i]? = none ∨ its2.toArray[i]? = none := by
      rcases hend with q | q
      · exact .inl (by simp; omega)
      · exact .inr (by simp; omega)
    exact wpAny_pyNext_zip_end (I.ok.hd hc) D hz hTI hTO h1 h2 p.isList p2.isList he fun h' hk => ⟨rfl, I.turnedL (t' := s.toks) (ch := [z, TI, TO, i1, i2]) (fun c o hb q =>
      hk c o (fun q' => hb (by simp [q'])) (fun q' => hb (by simp [q'])) (fun q' => hb (by simp [q'])) (fun q' => hb (by simp [q'])) q) hf⟩
  self := fun A i s Q E st h => wpAny_pyIter_zip st.1 h
noncomputable def iZip (K : Frag) (ta : TA) : TI := fun σ H R => ta σ H fun vs H1 => ∃ a b xs ys, vs = [.ref a, .ref b] ∧ SqL K H1 a xs ∧ SqL K H1 b ys ∧ R (Itz K a b) H1
theorem BCe {X : Cx} {e e2 : Expr} {ta : TA} {p pos tpos : Pos} {elts : List Expr} {kk : Nat} (hg : Gl X "zip") (hm : X.mg "zip" = none) (ha : PA X [e, e2] ta)
    (hs : starEach [e, e2] X.env = (false, eval e X.env) :: starEach [e2] X.env := by rfl) (hpl : (backTo pos (starEach [e2] X.env)).any (·.1) = false := by rfl) :
    PI X (.Tuple elts kk tpos) (.Call (.Name "zip" p) [e, e2] [] pos) (iZip X.K ta) := by
  intro pins s σ H R I h
  refine Call_ (AWe I hg hm AY2 (PyProof.Rows.callWith_type1 (thn (ha pos pins s σ H _ I h) fun us s1 ⟨vs, H1, I1, r1, q1⟩ => ?_) hs hpl))
  obtain ⟨a, b, xs, ys, ex, hqx, hqy, q⟩ := q1
  subst ex
  cases r1 with
  | cons r rr =>
    cases rr with
    | cons r' rr =>
      cases rr
      cases r
      cases r'
      obtain ⟨its, rv, p1, _⟩ := I1.list hqx
      obtain ⟨its2, rv2, p2, _⟩ := I1.list hqy
      have la : a < s1.heap.objs.size := p1.lt
      have lb : b < s1.heap.objs.size := p2.lt
      refine call_zip_2 p1.isList p2.isList fun h' hz hTI hTO h1 h2 hsz hk => wpAny_pyIter_zip hz ?_
      have I2 : Inv X pins σ H1 { s1 with heap := h' } := I1.kept (t' := s1.toks) hk
      refine ⟨s1.heap.objs.size + 4, [s1.heap.objs.size + 4, s1.heap.objs.size + 2, s1.heap.objs.size + 3, s1.heap.objs.size, s1.heap.objs.size + 1], _, _, H1, rfl, I2, A4w (PySem.W.ktu_apart s1.heap.objs.size a b la lb), ⟨hz, hTI, ⟨_, _, hTO⟩, h1, h2⟩, fun c hcm => ?_, q⟩
      have e' : c = s1.heap.objs.size + 4 ∨ c = s1.heap.objs.size + 2 ∨ c = s1.heap.objs.size + 3 ∨ c = s1.heap.objs.size ∨ c = s1.heap.objs.size + 1 := by simpa using hcm
      have hle : s1.heap.objs.size ≤ c := by
        rcases e' with z | z | z | z | z
        · rw [z]; exact Nat.le_add_right _ _
        · rw [z]; exact Nat.le_add_right _ _
        · rw [z]; exact Nat.le_add_right _ _
        · rw [z]; exact Nat.le_refl _
        · rw [z]; exact Nat.le_add_right _ _
      exact I1.fpOk hle (I1.hok.fresh hle)
end L2
section
namespace Bits
open PySem PyProof.Rows
theorem A2r {x y : Int} (hx : 0 ≤ x) (hy : 0 ≤ y) : Builtin.bitOr x y = ((x.toNat ||| y.toNat : Nat) : Int) := by
  have e := nat_or_add_and x.toNat y.toNat
  rw [bitOr_and, bitAnd_pp hx hy]
  omega
end Bits
end
section
namespace TL
open PySem PySem.Builtin PySem.Builtin.Str PySem.StrLaws
end TL
end
namespace L2
open PySem PySem.Spec PyProof.Rows
section
variable {X : Cx} {pins : List (Addr × Obj)} {σ : St} {H : Hp} {s : Shared} {Q : VK}
end
section
variable {X : Cx}
end
section
variable {X : Cx} {o e : Expr} {to te : TE}
end
end L2
namespace L2
open PySem PySem.Spec PyProof.Rows
section
variable {X : Cx}
end
end L2
namespace Att
open PySem PySem.W PySem.Calls PyProof.Rows
section
variable {prog : Program} {w : World} {A : Around} {E : Value → Shared → Prop} {s : Shared} {K : Frag}
end
end Att
namespace L2
open PySem PySem.Spec PyProof.Rows
theorem AIo : ∀ {vs : List Value} {ns : List Int}, IntsAre vs ns → Vals (ns.map V.int) vs
  | _, _, .nil => .nil
  | _, _, .cons n t h => .cons ⟨t, rfl⟩ (AIo h)
end L2
namespace L2
open PySem PySem.Spec PyProof.Rows
end L2
namespace L2
open PySem PySem.Spec PyProof.Rows
noncomputable abbrev CX0 : CXT := fun _ _ _ _ _ _ => False
noncomputable abbrev E0 : XK := fun _ _ _ => False
theorem BDk {X : Cx} : Passes CX0 X E0 := fun _ _ _ _ _ _ _ h => h.elim
structure Fun (K : Frag) (x qual : Str) (st : Stmt) (f : Addr) (fd : FuncData) : Prop where
  ex : ∃ (oc : Value) (od : Option Addr) (kV doc pm : Value) (an : Option Addr) (cdv ct : Value) (osl : Array (Option Value)),
    fd = fnOf x qual (AEi st) (ACy st) (AAb st) .none kV doc pm an cdv ct ∧ K.lookup f = some ⟨oc, od, .func fd, osl⟩ ∧ codeIn K cdv qual = true
  kp : keepIn K (.ref f) = true
section
variable {P : Program} {w : World} {K : Frag} {mg : Str → Option Value} {base : Heap}
theorem Fun.ok {x qual : Str} {st : Stmt} {f : Addr} {fd : FuncData} {N ps : List Str} {k : Nat} {sp : Sp} (F : Fun K x qual st f fd) (S : AAh N ps (AAb st)) (len : ∀ vs H Q E, sp vs H Q E → vs.length = ps.length)
    (hbody : ∀ (cdv : Value) (A : Around) (outer : List Env) (s : Shared) (H : Hp) (vs : List V) (Q : VK) (E : XK), Room k (A.deeper (envOfC qual (AAb st) s.heap.objs.size f cdv)) → sp vs H Q E →
      ∃ t, PSs (cxOf CX0 P w K mg base N qual (AAb st) f cdv A outer s H E).nox (ACy st) t ∧ t { nx := fun _ H' => Q .non H', rt := Q } (start N vs) H) : FnOk P w K mg base CX0 (k + 1) f fd ps sp := by
  obtain ⟨oc, od, kV, doc, pm, an, cdv, ct, osl, rfl, lk, hcd⟩ := F.ex
  refine fn_of lk hcd S len fun A outer s H vs Q E hr hsp => ?_
  obtain ⟨t, h, q⟩ := hbody cdv A outer s H vs Q E hr hsp
  exact ⟨t, h.nox, q⟩
theorem Fun.binds {x qual : Str} {st : Stmt} {f : Addr} {fd : FuncData} {ps : List Str} (F : Fun K x qual st f fd)
    (h : ∀ (kV doc pm : Value) (an : Option Addr) (cdv ct : Value) (us : List Value), us.length = ps.length → bindArgs (fnOf x qual (AEi st) (ACy st) (AAb st) .none kV doc pm an cdv ct) ⟨us, []⟩ = pure (ps.zip us)) : Binds K fd ps [] := by
  obtain ⟨oc, od, kV, doc, pm, an, cdv, ct, osl, rfl, lk, hcd⟩ := F.ex
  exact .all (h kV doc pm an cdv ct)
theorem A9u {x qual : Str} {st : Stmt} {f : Addr} {oc : Value} {od an : Option Addr} {osl : Array (Option Value)} {kV doc pm cdv ct : Value} (l : K.lookup f = some ⟨oc, od, .func (fnOf x qual (AEi st) (ACy st) (AAb st) .none kV doc pm an cdv ct), osl⟩)
    (c : codeIn K cdv qual = true) (k : keepIn K (.ref f) = true) : Fun K x qual st f (fnOf x qual (AEi st) (ACy st) (AAb st) .none kV doc pm an cdv ct) := ⟨⟨oc, od, kV, doc, pm, an, cdv, ct, osl, rfl, l, c⟩, k⟩
end
theorem BAi {A : Around} {k : Nat} (hr : Room k A) : A.units + 1 < cLine := Nat.lt_of_le_of_lt (Nat.add_le_add_left (by decide : 1 ≤ 64) _) hr.units
section
variable {X : Cx}
theorem pv (i : Nat) {x : Str} {pos : Pos} (hN : X.N[i]? = some x := by rfl) (hv : Vis X.env.scope x := by first | exact Or.inl rfl | exact Or.inr (Or.inl rfl) | exact Or.inr (Or.inr rfl)) (hd : (x == ("__debug__" : Str)) = false := by decide)
    (hcd : (x == ("__classdict__" : Str)) = false := by decide) : PE X (.Name x pos) (tVar i) := A8b hN hv hd hcd
end
theorem iteF {A B : Prop} (h : B) : if false = true then A else B := by
  rw [if_neg Bool.false_ne_true]
  exact h
theorem iteT {A B : Prop} (h : A) : if true = true then A else B := by
  rw [if_pos rfl]
  exact h
theorem ite2 {c A B : Prop} [Decidable c] (h1 : c → A) (h2 : ¬ c → B) : if c then A else B := by
  by_cases h : c
  · rw [if_pos h]
    exact h1 h
  · rw [if_neg h]
    exact h2 h
noncomputable def Same (H H' : Hp) : Prop := ∀ b o, H b = some o → H' b = some o
theorem Same.refl (H : Hp) : Same H H := fun _ _ h => h
theorem Same.trans {H H1 H2 : Hp} (a : Same H H1) (b : Same H1 H2) : Same H H2 := fun c o h => b c o (a c o h)
theorem Same.seq {K : Frag} {H H' : Hp} {a : Addr} {xs : List V} (e : Same H H') (h : SqL K H a xs) : SqL K H' a xs := by
  rcases h with (h | ⟨o, h⟩) | h
  · exact .inl (.inl (e _ _ h))
  · exact .inl (.inr ⟨o, e _ _ h⟩)
  · exact .inr h
section
variable {κ : Type} [DecidableEq κ]
end
end L2
namespace LX
open PySem PySem.Spec PyProof.Rows L2
noncomputable def TabK (K : Frag) (a : Addr) (D : List (Str × V)) : Prop :=
  (a == sysModules) = false ∧ ∃ o es ep, K.lookup a = some o ∧ o.ExactDict ∧ o.data = .dict es ep ∧ KTD.Rows RelV es.toList D
section
variable {prog : Program} {w : World} {A : Around} {E : Value → Shared → Prop} {s : Shared} {a : Addr} {D : List (Str × V)} {k : Str} {tk : Tok}
theorem TabK.tab {K : Frag} {h : Heap} (T : TabK K a D) (kin : K.In h) : KTD.TabOf RelV h a D := by
  obtain ⟨lo, o, es, ep, ho, r⟩ := T
  exact ⟨lo, o, es, ep, kin a o ho, r⟩
theorem A3i {Q : Option Value → Shared → Prop} (T : KTD.TabOf RelV s.heap a D)
    (yes : ∀ v u, KTD.datumAt k D = some v → RelV v u → Q (some u) { s with toks := s.toks + 1 })
    (no : KTD.datumAt k D = none → Q none { s with toks := s.toks + 1 }) : wpAny (model prog w) A (dictGet a (.str k tk)) Q E s := by
  obtain ⟨lo, o, es, ep, ho, ex, hd, rows⟩ := T
  have all : (es.all fun e => isExactStrKey e.key) = true := by
    have z := rows.exact
    cases es
    simpa using z
  have look : Q (findBy (fun k v => v.isStr k) es k) { s with toks := s.toks + 1 } := by
    have z : findBy (fun k v => v.isStr k) es k = (es.toList.find? fun e => e.key.isStr k).map (·.val) := by
      cases es
      simp [findBy]
    rw [z]
    cases c : KTD.datumAt k D with
    | none => rw [rows.find_none c]; exact no c
    | some v =>
      obtain ⟨u, hu, r⟩ := rows.find_some c
      rw [hu]
      exact yes v u c r
  unfold dictGet
  try with_reducible refine wpAny_holding ?_
  refine wpAny_bind (wpAny_pyHash_str (wpAny_bind (KTD.kt_dictFind_strs (s := { s with toks := s.toks + 1 }) ho hd all ?_)))
  rw [findBy_of_findIdx?] at look
  cases c : es.findIdx? fun e => e.key.isStr k with
  | none =>
    rw [c] at look
    exact wpAny_pure look
  | some i =>
    rw [c] at look
    exact wpAny_bind (wpAny_dictEntries (s := { s with toks := s.toks + 1 }) ho hd (wpAny_pure look))
theorem AN1 (T : KTD.TabOf RelV s.heap a D) : s.TypeIs (.ref a) "dict" := by
  obtain ⟨lo, o, es, ep, ho, ex, _⟩ := T
  exact ⟨o, ho, ex.1⟩
theorem A5e {v : V} {Q : Value → Shared → Prop} (T : KTD.TabOf RelV s.heap a D) (d : KTD.datumAt k D = some v) (h : ∀ u, RelV v u → Q u { s with toks := s.toks + 1 }) :
    wpAny (model prog w) A (getItem (.ref a) (.str k tk)) Q E s := by
  unfold getItem
  try with_reducible refine wpAny_holding ?_
  refine wpAny_bind (wpAny_sequenceKey (AN1 T) (by decide) ?_)
  refine wpAny_bind (wpAny_callSpecial?_slot (name := Str.ofString "__getitem__") (AN1 T) slot_dict_getitem ?_)
  refine wpAny_call_entry slot_dict_getitem (AN1 T) entry_dict_getitem ?_ (args_dict_getitem _ _)
  refine wpAny_bind (m := dictGet a (.str k tk)) (A3i T (fun v' u e r => ?_) fun no => ?_)
  · rw [d] at e
    cases e
    exact wpAny_pure ⟨u, rfl, wpAny_pure (h u r)⟩
  · rw [d] at no
    cases no
end
section
variable {X : Cx} {o i e f : Expr} {pos apos cpos : Pos} {td ty tx : TE}
noncomputable def tTab (K : Frag) (td ty : TE) : TE := fun σ H Q => td σ H fun x H1 => ty σ H1 fun y H2 => ∃ a k D v, x = .ref a ∧ y = .str k ∧ TabK K a D ∧ KTD.datumAt k D = some v ∧ Q v H2
theorem BCn (ho : PE X o td) (hi : PE X i ty) (hs : NoSl i) : PE X (.Subscript o i pos) (tTab X.K td ty) := by
  intro pins s σ H Q I h
  refine A0t PySem.F.slot_dict_getitem.lookup hs (thn (ho pins s σ H _ I h) fun u s1 ⟨x, H1, I1, rx, q1⟩ => thn (hi pins s1 σ H1 _ I1 q1) fun iv s2 ⟨y, H2, I2, ry, q2⟩ => ?_)
  obtain ⟨a, k, D, v, rfl, rfl, T, d, q⟩ := q2
  obtain rfl : u = Value.ref a := rx
  obtain ⟨t, rfl⟩ := ry
  have T2 := T.tab I2.kIn
  exact ⟨AN1 T2, A5e T2 d fun u r => ⟨v, H2, I2.tok _, r, q⟩⟩
end
section
variable (P : Program) (w : World) (K : Frag) (mg : Str → Option Value) (base : Heap)
noncomputable def Can (f : Addr) (k : Nat) (ps : List Str) (sp : Sp) : Prop := keepIn K (.ref f) = true ∧ ∃ fd, Binds K fd ps [] ∧ FnOk P w K mg base CX0 k f fd ps sp
noncomputable def Fn (x : Str) (k : Nat) (ps : List Str) (sp : Sp) : Prop := ∃ f, mg x = some (.ref f) ∧ Can P w K mg base f k ps sp
end
theorem Can.mono {P : Program} {w : World} {K : Frag} {mg : Str → Option Value} {base : Heap} {f : Addr} {j k : Nat} {ps : List Str} {sp : Sp} (h : Can P w K mg base f j ps sp) (hk : j ≤ k) : Can P w K mg base f k ps sp := by
  obtain ⟨a, fd, b, c⟩ := h
  exact ⟨a, fd, b, c.mono hk⟩
theorem Fn.mono {P : Program} {w : World} {K : Frag} {mg : Str → Option Value} {base : Heap} {x : Str} {j k : Nat} {ps : List Str} {sp : Sp} (h : Fn P w K mg base x j ps sp) (hk : j ≤ k) : Fn P w K mg base x k ps sp := by
  obtain ⟨f, a, b⟩ := h
  exact ⟨f, a, b.mono hk⟩
section
variable {X : Cx} {k : Nat} {ps : List Str} {sp : Sp} {x : Str} {p pos : Pos} {e fe : Expr} {es : List Expr} {tf : TE} {t : TA}
noncomputable def tFn (sp : Sp) (t : TA) : TE := fun σ H Q => t σ H fun vs H1 => sp vs H1 Q E0
theorem ABy (F : Fn X.prog X.w X.K X.mg X.base x k ps sp) (hr : Room k X.A) (hg : Gl X x) (ha : PA X (e :: es) t) (hdb : (x == ("__debug__" : Str)) = false := by decide)
    (he : starEach (e :: es) X.env = (false, eval e X.env) :: starEach es X.env := by rfl) (hpl : (backTo pos (starEach es X.env)).any (·.1) = false := by rfl) :
    PE X (.Call (.Name x p) (e :: es) [] pos) (tFn sp t) := by
  obtain ⟨f, hm, hk, fd, hb, G⟩ := F
  intro pins s σ H Q I h
  refine A7f G hr hg hm hk hb .nil BDk ha hdb he hpl pins s σ H Q I ?_
  have e : (fun (vs : List V) (H1 : Hp) => sp (vs ++ []) H1 Q E0) = fun vs H1 => sp vs H1 Q E0 := by
    funext vs H1
    rw [List.append_nil]
  show t σ H (fun vs H1 => sp (vs ++ []) H1 Q E0)
  rw [e]
  exact h
noncomputable def tDyn (Can : Addr → Sp → Prop) (tf : TE) (t : TA) : TE := fun σ H Q => tf σ H fun x H1 => ∃ f sp, x = .ref f ∧ Can f sp ∧ t σ H1 fun vs H2 => sp vs H2 Q E0
theorem A2v (hf : PE X fe tf) (hr : Room k X.A) (ha : PA X (e :: es) t)
    (hev : eval (.Call fe (e :: es) [] pos) X.env = (do callWith pos (← eval fe X.env) [] (backTo pos (starEach (e :: es) X.env)) (backToKw pos (keywordEach [] X.env))) := by rfl)
    (he : starEach (e :: es) X.env = (false, eval e X.env) :: starEach es X.env := by rfl) (hpl : (backTo pos (starEach es X.env)).any (·.1) = false := by rfl) :
    PE X (.Call fe (e :: es) [] pos) (tDyn (fun f sp => ∃ ps, LX.Can X.prog X.w X.K X.mg X.base f k ps sp) tf t) := by
  intro pins s σ H Q I h
  rw [hev]
  refine wpAny_bind (thn (hf pins s σ H _ I h) fun u s1 ⟨x, H1, I1, rx, q⟩ => ?_)
  obtain ⟨f, sp, rfl, ⟨ps, hk, fd, hb, G⟩, q⟩ := q
  obtain rfl : u = Value.ref f := rx
  refine PySem.W.callWith_K (h₀ := X.base) I.ok.mod.kin hk (thn (ha pos pins s1 σ H1 _ I1 q) fun us s2 ⟨vs, H2, I2, r, q2⟩ => ⟨I2.kIn, ?_⟩) he hpl
  exact A9d (dvs := []) G hr hb .nil BDk I2 r (by rw [List.append_nil]; exact q2)
end
end LX
namespace LX
open PySem PySem.Spec PyProof.Rows L2
theorem BD5 (a b : Nat) : Builtin.bitAnd (a : Int) (b : Int) = ((a &&& b : Nat) : Int) := by
  rw [bitAnd_pp (Int.natCast_nonneg a) (Int.natCast_nonneg b), Int.toNat_natCast, Int.toNat_natCast]
theorem b_or (a b : Nat) : Builtin.bitOr (a : Int) (b : Int) = ((a ||| b : Nat) : Int) := by
  rw [Bits.A2r (Int.natCast_nonneg a) (Int.natCast_nonneg b), Int.toNat_natCast, Int.toNat_natCast]
theorem A60 {X Y x y v s : Nat} (e1 : X / 2 = x) (e2 : Y / 2 = y) (ih : x + 2 * y = v / 2 + s / 2) (m1 : X % 2 + 2 * (Y % 2) = v % 2 + s % 2) : X + 2 * Y = v + s := by omega
theorem BDr (v s : Nat) : (v ^^^ s) % 2 + 2 * ((v &&& s) % 2) = v % 2 + s % 2 := by
  have a := Nat.testBit_xor v s 0
  have b := Nat.testBit_and v s 0
  simp only [Nat.testBit_zero] at a b
  exact (by decide +kernel : ∀ x y p q : _root_.Fin 2, decide (x.1 = 1) = (decide (p.1 = 1) ^^ decide (q.1 = 1)) → decide (y.1 = 1) = (decide (p.1 = 1) && decide (q.1 = 1)) → x.1 + 2 * y.1 = p.1 + q.1)
    ⟨_, Nat.mod_lt _ (by decide)⟩ ⟨_, Nat.mod_lt _ (by decide)⟩ ⟨_, Nat.mod_lt _ (by decide)⟩ ⟨_, Nat.mod_lt _ (by decide)⟩ a b
theorem AUj : ∀ n v s : Nat, v ≤ n → (v ^^^ s) + 2 * (v &&& s) = v + s
  | 0, v, s, h => by
    obtain rfl : v = 0 := Nat.le_zero.mp h
    rw [Nat.zero_xor, Nat.zero_and, Nat.mul_zero, Nat.add_zero, Nat.zero_add]
  | n + 1, v, s, h => by
    by_cases z : v = 0
    · subst z
      rw [Nat.zero_xor, Nat.zero_and, Nat.mul_zero, Nat.add_zero, Nat.zero_add]
    · exact A60 (Nat.xor_div_two) (Nat.and_div_two) (AUj n (v / 2) (s / 2) (Nat.le_of_lt_succ (Nat.lt_of_lt_of_le (Nat.div_lt_self (Nat.pos_of_ne_zero z) (by decide)) h))) (BDr v s)
theorem BBp {X Y a b : Nat} (h : X + 2 * Y = a + b) : (a : Int) + (b : Int) - 2 * (Y : Int) = (X : Int) := by omega
theorem b_xor (a b : Nat) : Builtin.bitXor (a : Int) (b : Int) = ((a ^^^ b : Nat) : Int) := by
  rw [PyProof.Rows.bitXor_and, BD5]
  exact BBp (AUj a a b (Nat.le_refl _))
noncomputable def rN (g : Nat → Nat → Nat) : R2 := fun x y H Q => ∃ a b : Nat, x = .int a ∧ y = .int b ∧ Q (.int (g a b : Nat)) H
noncomputable def rNC (C : Nat → Nat → Prop) (g : Nat → Nat → Nat) : R2 := fun x y H Q => ∃ a b : Nat, x = .int a ∧ y = .int b ∧ C a b ∧ Q (.int (g a b : Nat)) H
theorem opN {X : Cx} {f : Value → Value → Sem Value} {g : Int → Int → Int} {n : Nat → Nat → Nat} (h : OpR X f (rI0 fun i j => .int (g i j))) (e : ∀ a b : Nat, g a b = (n a b : Nat)) : OpR X f (rN n) := by
  intro pins s σ H x y v u Q I rx ry q
  obtain ⟨a, b, rfl, rfl, q⟩ := q
  exact h pins s σ H _ _ v u Q I rx ry ⟨a, b, rfl, rfl, by show Q (.int (g a b)) H; rw [e]; exact q⟩
theorem opNC {X : Cx} {f : Value → Value → Sem Value} {C : Int → Int → Prop} {D : Nat → Nat → Prop} {g : Int → Int → Int} {n : Nat → Nat → Nat} (h : OpR X f (rI C fun i j => .int (g i j))) (c : ∀ a b : Nat, D a b → C a b) (e : ∀ a b : Nat, g a b = (n a b : Nat)) : OpR X f (rNC D n) := by
  intro pins s σ H x y v u Q I rx ry q
  obtain ⟨a, b, rfl, rfl, d, q⟩ := q
  exact h pins s σ H _ _ v u Q I rx ry ⟨a, b, rfl, rfl, c a b d, by show Q (.int (g a b)) H; rw [e]; exact q⟩
section
variable {X : Cx}
theorem ABt : OpR X (binaryOp .BitAnd) (rN fun a b => a &&& b) := opN AG8 BD5
theorem n_or : OpR X (binaryOp .BitOr) (rN fun a b => a ||| b) := opN BEb b_or
theorem ATe : OpR X (binaryOp .BitXor) (rN fun a b => a ^^^ b) := opN BBb b_xor
theorem AHo : OpR X (binaryOp .Add) (rN fun a b => a + b) := opN AZd fun a b => by omega
theorem AEj : OpR X (binaryOp .RShift) (rN fun a b => a / 2 ^ b) := by
  intro pins s σ H x y v u Q I rx ry q
  obtain ⟨a, b, rfl, rfl, q⟩ := q
  refine AY5 pins s σ H _ _ v u Q I rx ry ⟨a, b, rfl, rfl, Int.natCast_nonneg b, ?_⟩
  have e : ((a : Int) / 2 ^ (b : Int).toNat) = ((a / 2 ^ b : Nat) : Int) := by
    rw [Int.toNat_natCast]
    simp
  show Q (.int ((a : Int) / 2 ^ (b : Int).toNat)) H
  rw [e]
  exact q
noncomputable def Sm (a b : Nat) : Prop := a < 2 ^ 64 ∧ b ≤ 1000000
theorem AX1 : OpR X (binaryOp .LShift) (rNC Sm fun a b => a * 2 ^ b) := opNC A7w (fun a b d => ⟨Int.natCast_nonneg b, by have := d.2; omega, by have := d.1; rw [Int.natAbs_natCast]; exact this⟩) fun a b => by
  rw [Int.toNat_natCast]
  simp
theorem AOq : OpR X (binaryOp .Mult) (rNC (fun a _ => a < 2 ^ 64) fun a b => a * b) := opNC AX3 (fun a b d => .inl ⟨by have := Int.natCast_nonneg a; omega, by omega⟩) fun a b => by simp
theorem A2j : OpR X (binaryOp .Mod) (rNC (fun _ b => 0 < b) fun a b => a % b) := opNC BA7 (fun a b d => by omega) fun a b => by simp
theorem pn (k : Nat) {j pos} : PE X (.Constant (.int (k : Int)) j pos) (tC (.int (k : Nat))) := BBt
end
section
variable {X : Cx} {e : Expr} {te : TE} {p p1 p2 : Pos} {c : Str} {j : Nat}
end
noncomputable def LstAt (K : Frag) (H : Hp) (a : Addr) (xs : List V) : Prop :=
  Rd H a (.lst xs) ∨ ∃ (its : Array Value) (n : Nat), K.lookup a = some { cls := .type "list", data := .seq its n } ∧ its.size ≤ sizeLine ∧ Vals xs its.toList
theorem LstAt.sq {K : Frag} {H : Hp} {a : Addr} {xs : List V} (h : LstAt K H a xs) : SqL K H a xs := by
  rcases h with h | ⟨its, n, k, z, r⟩
  · exact .inl h
  · exact .inr ⟨_, its, n, k, rfl, rfl, rfl, z, r⟩
theorem LstAt.there {X : Cx} {pins : List (Addr × Obj)} {σ : L2.St} {H : Hp} {s : Shared} {a : Addr} {xs : List V} (h : LstAt X.K H a xs) (I : Inv X pins σ H s) :
    ∃ (its : List Value) (n : Nat), Vals xs its ∧ s.heap.get? a = some { cls := .type "list", data := .seq its.toArray n } := by
  rcases h with h | ⟨its, n, k, z, r⟩
  · obtain ⟨_, its, n, r, e⟩ := h.ok I.hok
    exact ⟨its, n, r, e⟩
  · exact ⟨its.toList, n, r, by simpa using I.kIn a _ k⟩
noncomputable def A6k (K : Frag) : R2 := fun x y H Q => ∃ l b xs zs, x = .ref l ∧ y = .ref b ∧ LstAt K H l xs ∧ LstAt K H b zs ∧ xs.length + zs.length ≤ sizeLine ∧ ∀ p, H p = none → Q (.ref p) (upd H p (.lst (xs ++ zs)))
theorem AOl {X : Cx} : OpR X (binaryOp .Add) (A6k X.K) := by
  intro pins s σ H x y v u Q I rx ry h
  obtain ⟨l, b, xs, zs, rfl, rfl, hH, hB, hz, q⟩ := h
  cases rx
  cases ry
  obtain ⟨its, n, r, e⟩ := hH.there I
  obtain ⟨its2, n2, r2, e2⟩ := hB.there I
  have hl := r.length
  have hl2 := r2.length
  refine PySem.P.add_list e e2 ?_ (by rw [List.size_toArray, List.size_toArray]; omega)
  have ea : its.toArray ++ its2.toArray = (its ++ its2).toArray := by simp
  rw [ea]
  exact ⟨.ref _, _, I.lnew (t' := s.toks) (r.append r2) (by rw [List.length_append]; omega), rfl, q _ I.fresh⟩
noncomputable def ArgL (h : Heap) (a : Addr) (ns : List Int) : Prop := ∃ vs : List Value, h.get? a = some { cls := .type "list", data := .seq vs.toArray } ∧ IntsAre vs ns ∧ ns.length ≤ sizeLine
theorem ArgL.inj {h : Heap} {a : Addr} {ns ms : List Int} (x : ArgL h a ns) (y : ArgL h a ms) : ns = ms := by
  obtain ⟨vs, e, i, _⟩ := x
  obtain ⟨us, f, j, _⟩ := y
  rw [e] at f
  have z : vs = us := by
    injection f with f
    injection f with _ _ f
    injection f with f
    simpa using f
  subst z
  have e2 := (AIo i).inj (AIo j)
  have inj : ∀ {l m : List Int}, l.map V.int = m.map V.int → l = m := by
    intro l
    induction l with
    | nil => intro m h; cases m with | nil => rfl | cons _ _ => cases h
    | cons a l ih =>
      intro m h
      cases m with
      | nil => cases h
      | cons b m =>
        simp only [List.map_cons, List.cons.injEq, V.int.injEq] at h
        rw [h.1, ih h.2]
  exact inj e2
open Classical in
noncomputable def given (K : Frag) (h : Heap) (L : List Addr) : Hp := fun b => if b ∈ L ∧ K.lookup b = none then
    if e : ∃ p : Obj × List Int, h.get? b = some p.1 ∧ ArgL h b p.2 then some (.frz e.choose.1 (.lst (e.choose.2.map V.int))) else none
  else none
theorem AIc {K : Frag} {h : Heap} {L : List Addr} {b : Addr} {o : HO} (e : given K h L b = some o) : b ∈ L ∧ K.lookup b = none ∧ ∃ ob ns, o = .frz ob (.lst (ns.map V.int)) ∧ h.get? b = some ob ∧ ArgL h b ns := by
  unfold given at e
  split at e
  · rename_i c
    split at e
    · rename_i x
      cases e
      exact ⟨c.1, c.2, _, _, rfl, x.choose_spec.1, x.choose_spec.2⟩
    · cases e
  · cases e
theorem A43 {P : Program} {w : World} {K : Frag} {h : Heap} {L : List Addr} : HOk P w (given K h L) h := by
  intro b u e
  obtain ⟨_, _, ob, ns, rfl, ho, vs, hv, hi, hz⟩ := AIc e
  rw [hv] at ho
  cases ho
  exact ⟨hv, by rw [List.length_map]; exact hz, vs, _, AIo hi, hv⟩
theorem ALf {K : Frag} {h : Heap} {L : List Addr} (kin : K.In h) {a : Addr} {ns : List Int} (ha : a ∈ L) (x : ArgL h a ns) : LstAt K (given K h L) a (ns.map V.int) := by
  cases k : K.lookup a with
  | some o =>
    obtain ⟨vs, e, i, z⟩ := x
    have e' := kin a o k
    rw [e] at e'
    cases e'
    exact .inr ⟨vs.toArray, _, k, by rw [List.size_toArray, i.length]; exact z, by simpa using AIo i⟩
  | none =>
    have ex : ∃ p : Obj × List Int, h.get? a = some p.1 ∧ ArgL h a p.2 := by
      obtain ⟨vs, e, i, z⟩ := x
      exact ⟨(_, ns), e, vs, e, i, z⟩
    have g : given K h L a = some (.frz ex.choose.1 (.lst (ex.choose.2.map V.int))) := by
      unfold given
      rw [if_pos ⟨ha, k⟩, dif_pos ex]
    have en := ex.choose_spec.2.inj x
    rw [en] at g
    exact .inl (.inr ⟨_, g⟩)
noncomputable def A11 (out : List Int) (s₁ : Shared) (r : Result) (s' : Shared) : Prop := ∃ (p : Addr) (its : List Value) (n : Nat), r = .ok (.ret (.ref p)) ∧ s'.heap.get? p = some { cls := .type "list", data := .seq its.toArray n } ∧ IntsAre its out ∧
  OldK s₁.heap s'.heap ∧ s'.os = s₁.os ∧ AllBare s'.gens
end LX
namespace LX
open PySem PySem.Spec PyProof.Rows L2
noncomputable def TupK (K : Frag) (xs : List V) (a : Addr) : Prop :=
  ∃ (o : Obj) (its : Array Value) (n : Nat), K.lookup a = some o ∧ o.cls = .type "tuple" ∧ o.data = .seq its n ∧ its.size ≤ sizeLine ∧ Vals xs its.toList
theorem TupK.sq {K : Frag} {H : Hp} {xs : List V} {a : Addr} (h : TupK K xs a) : SqT K H a xs := .inr h
theorem A4r : ∀ {u : Value} {x : V}, absV u = some x → RelV x u := by
  intro u x h
  unfold absV at h
  split at h <;> cases h <;> first | rfl | exact ⟨_, rfl⟩
theorem AR3 : ∀ {us : List Value} {xs : List V}, us.map absV = xs.map some → Vals xs us
  | [], [], _ => .nil
  | [], _ :: _, h => by cases h
  | _ :: _, [], h => by cases h
  | u :: us, x :: xs, h => by
    simp only [List.map_cons, List.cons.injEq] at h
    exact .cons (A4r h.1) (AR3 h.2)
theorem ACl {K : Frag} {a : Addr} {od : Option Addr} {its : Array Value} {n : Nat} {sl : Array (Option Value)} {xs : List V}
    (l : K.lookup a = some ⟨.type "tuple", od, .seq its n, sl⟩) (v : its.toList.map absV = xs.map some) (z : its.size ≤ 100000) : TupK K xs a :=
  ⟨_, its, n, l, rfl, rfl, Nat.le_trans z (by decide), AR3 v⟩
noncomputable def tGr (Φ : Addr → Prop) : TE := fun _ H Q => ∀ a, Φ a → Q (.ref a) H
section
variable {X : Cx} {x : Str} {pos : Pos}
noncomputable def Nm (x : Str) : Prop := (x == ("__debug__" : Str)) = false ∧ (x == ("__classdict__" : Str)) = false
noncomputable def AZi (l : List Str) : Bool := l.all fun x => !(x == ("__debug__" : Str)) && !(x == ("__classdict__" : Str))
theorem nmk {l : List Str} (h : AZi l = true) {i : Nat} {x : Str} (e : l[i]? = some x) : Nm x := by
  have z := List.all_eq_true.mp h x (List.mem_of_getElem? e)
  simpa [Nm] using z
noncomputable def namesOk (sc : Scope) (l : List (Str × NameKind)) : Bool := l.all fun p => decide (sc.names.lookup p.1 = some p.2)
theorem lk {sc : Scope} {l : List (Str × NameKind)} (h : namesOk sc l = true) {i : Nat} {x : Str} {k : NameKind} (e : l[i]? = some (x, k)) : sc.names.lookup x = some k := by
  have z := List.all_eq_true.mp h (x, k) (List.mem_of_getElem? e)
  simpa using z
theorem pvx (i : Nat) (hv : Vis X.env.scope x) (n : Nm x) (hN : X.N[i]? = some x := by rfl) : PE X (.Name x pos) (tVar i) := A8b hN hv n.1 n.2
theorem AAt {k : Nat} (h : ∃ t, X.mg x = some (.int (k : Int) t)) (hg : Gl X x) (hd : (x == ("__debug__" : Str)) = false := by decide) : PE X (.Name x pos) (tC (.int (k : Nat))) := by
  obtain ⟨t, h⟩ := h
  exact A1m hg h ⟨t, rfl⟩ hd
theorem ABq {Φ : Addr → Prop} (h : ∃ a, X.mg x = some (.ref a) ∧ Φ a) (hg : Gl X x) (hd : (x == ("__debug__" : Str)) = false := by decide) : PE X (.Name x pos) (tGr Φ) := by
  obtain ⟨a, h, f⟩ := h
  intro pins s σ H Q I q
  exact A1m (v := .ref a) hg h rfl hd pins s σ H Q I (q a f)
end
noncomputable def Def (K : Frag) (mg : Str → Option Value) (x : Str) (st : Stmt) : Prop := ∃ f fd, mg x = some (.ref f) ∧ Fun K x x st f fd
section
variable {P : Program} {w : World} {K : Frag} {mg : Str → Option Value} {base : Heap} {x : Str} {st : Stmt} {N ps : List Str} {k : Nat} {sp : Sp}
theorem Def.fn (D : Def K mg x st) (S : AAh N ps (AAb st))
    (hb : ∀ (kV doc pm : Value) (an : Option Addr) (cdv ct : Value) (us : List Value), us.length = ps.length → bindArgs (fnOf x x (AEi st) (ACy st) (AAb st) .none kV doc pm an cdv ct) ⟨us, []⟩ = pure (ps.zip us))
    (len : ∀ vs H Q E, sp vs H Q E → vs.length = ps.length)
    (body : ∀ (f : Addr) (cdv : Value) (A : Around) (outer : List Env) (s : Shared) (H : Hp) (vs : List V) (Q : VK) (E : XK), Room k (A.deeper (envOfC x (AAb st) s.heap.objs.size f cdv)) → sp vs H Q E →
      ∃ t, PSs (cxOf CX0 P w K mg base N x (AAb st) f cdv A outer s H E).nox (ACy st) t ∧ t { nx := fun _ H' => Q .non H', rt := Q } (start N vs) H) : Fn P w K mg base x (k + 1) ps sp := by
  obtain ⟨f, fd, m, F⟩ := D
  exact ⟨f, m, F.kp, fd, F.binds hb, F.ok S len (body f)⟩
theorem Fn.can {f : Addr} (F : Fn P w K mg base x k ps sp) (m : mg x = some (.ref f)) : Can P w K mg base f k ps sp := by
  obtain ⟨g, m', c⟩ := F
  rw [m] at m'
  cases m'
  exact c
end
theorem BBl {K : Frag} {h : Heap} {mg : Str → Option Value} (X : K.In h) (G : h.Ns mainGlobals mg) {x : Str} {st : Stmt} {f : Addr} {oc : Value} {od an : Option Addr} {osl : Array (Option Value)} {kV doc pm cdv ct : Value}
    (a : nsIn K mainGlobals x = some (some (.ref f))) (l : K.lookup f = some ⟨oc, od, .func (fnOf x x (AEi st) (ACy st) (AAb st) .none kV doc pm an cdv ct), osl⟩)
    (c : codeIn K cdv x = true) (k : keepIn K (.ref f) = true) : Def K mg x st := ⟨f, _, PySem.W.mg_of X G a, A9u l c k⟩
theorem A3v : bootBuiltins "tuple" = some (.type "tuple") := by decide +kernel
theorem AY4 : bootBuiltins "sorted" = some (.builtin "sorted") := by decide +kernel
noncomputable def valOf (s : Stmt) : Expr := match s with
  | .Assign _ e _ => e
  | .Return (some e) _ => e
  | _ => .Constant .none 0 ⟨0, 0, 0, 0⟩
noncomputable def A8s (e : Expr) : Scope := match e with
  | .ListComp _ _ s _ => s
  | .BinOp (.BinOp _ _ (.Call _ [.ListComp _ _ s _] _ _) _) _ _ _ => s
  | _ => AAb (.Pass ⟨0, 0, 0, 0⟩)
noncomputable def tTru (K : Frag) (ta : TE) : TT := fun σ H Q => ta σ H fun x H' => ∃ k, TruV K x H' k ∧ Q k H'
theorem AXj {X : Cx} {K : Frag} {a : Expr} {ta : TE} (e : X.K = K) (ha : PE X a ta) (he : ∀ whole, isTrue a X.env whole = (do let v ← whole; standAt a.pos; holding [v] (truthy v))) :
    PT X a (tTru K ta) := by
  subst e
  exact AFf ha he
noncomputable def Pure (t : TT) (σ : L2.St) (H : Hp) (b : Bool) : Prop := ∀ Q : Bool → Hp → Prop, Q b H → t σ H Q
theorem ifs {c : TT} {t u : TS} {D : Ends} {σ : L2.St} {H : Hp} {b : Bool} (hc : Pure c σ H b) (h : if b = true then t D σ H else u D σ H) : tIfS c t u D σ H := hc _ h
theorem A5z {t u : TT} {σ : L2.St} {H : Hp} {a b : Bool} (ha : Pure t σ H a) (hb : Pure u σ H b) : Pure (tAnd t u) σ H (a && b) := fun Q q => ha _ (by
  cases a with
  | true => exact iteT (hb Q q)
  | false => exact iteF q)
theorem p_or {t u : TT} {σ : L2.St} {H : Hp} {a b : Bool} (ha : Pure t σ H a) (hb : Pure u σ H b) : Pure (tOr t u) σ H (a || b) := fun Q q => ha _ (by
  cases a with
  | true => exact iteT q
  | false => exact iteF (hb Q q))
theorem BEf {t : TT} {σ : L2.St} {H : Hp} {a : Bool} (ha : Pure t σ H a) : Pure (tNot t) σ H (!a) := fun Q q => ha _ q
theorem BBz {t u : TT} {σ : L2.St} {H : Hp} {a b : Bool} (ha : Pure t σ H a) (hb : a = true → Pure u σ H b) : Pure (tAnd t u) σ H (a && b) := fun Q q => ha _ (by
  cases a with
  | true => exact iteT (hb rfl Q q)
  | false => exact iteF q)
theorem p_orc {t u : TT} {σ : L2.St} {H : Hp} {a b : Bool} (ha : Pure t σ H a) (hb : a = false → Pure u σ H b) : Pure (tOr t u) σ H (a || b) := fun Q q => ha _ (by
  cases a with
  | true => exact iteT q
  | false => exact iteF (hb rfl Q q))
noncomputable def Grow (t : TT) (σ : L2.St) (H : Hp) (b : Bool) : Prop := ∀ Q : Bool → Hp → Prop, (∀ H1, Same H H1 → Q b H1) → t σ H Q
theorem Pure.grow {t : TT} {σ : L2.St} {H : Hp} {b : Bool} (h : Pure t σ H b) : Grow t σ H b := fun Q q => h Q (q H (Same.refl H))
theorem ifsG {c : TT} {t u : TS} {D : Ends} {σ : L2.St} {H : Hp} {b : Bool} (hc : Grow c σ H b) (h : ∀ H1, Same H H1 → if b = true then t D σ H1 else u D σ H1) : tIfS c t u D σ H := hc _ h
theorem BCb {t u : TT} {σ : L2.St} {H : Hp} {a b : Bool} (ha : Grow t σ H a) (hb : ∀ H1, Same H H1 → a = true → Grow u σ H1 b) : Grow (tAnd t u) σ H (a && b) := fun Q q => ha _ fun H1 s1 => by
  cases a with
  | true => exact iteT (hb H1 s1 rfl Q fun H2 s2 => q H2 (s1.trans s2))
  | false => exact iteF (q H1 s1)
noncomputable abbrev vN (n : Nat) : V := .int n
theorem atN {xs : List V} {i : Nat} {v : V} (h : xs[i]? = some v) : atI xs (i : Int) = some v := A8o h
theorem len1 : (1 : Nat) ≤ sizeLine := by decide
theorem SqT.same {K : Frag} {H H' : Hp} {a : Addr} {xs : List V} (e : Same H H') (h : SqT K H a xs) : SqT K H' a xs := by
  rcases h with h | h
  · rcases h with h | ⟨o, h⟩
    · exact .inl (.inl (e _ _ h))
    · exact .inl (.inr ⟨o, e _ _ h⟩)
  · exact .inr h
theorem ABm {H : Hp} {p : Addr} {o : HO} (h : H p = none) : Same H (upd H p o) := fun b u e => by
  rw [ABi (ACb e h)]
  exact e
theorem ln1 {α : Type} {P : List α → Prop} (h : ∀ a, P [a]) : ∀ us : List α, us.length = 1 → P us
  | [a], _ => h a
theorem ln2 {α : Type} {P : List α → Prop} (h : ∀ a b, P [a, b]) : ∀ us : List α, us.length = 2 → P us
  | [a, b], _ => h a b
theorem ln3 {α : Type} {P : List α → Prop} (h : ∀ a b c, P [a, b, c]) : ∀ us : List α, us.length = 3 → P us
  | [a, b, c], _ => h a b c
theorem ln4 {α : Type} {P : List α → Prop} (h : ∀ a b c d, P [a, b, c, d]) : ∀ us : List α, us.length = 4 → P us
  | [a, b, c, d], _ => h a b c d
end LX
namespace LX
open PySem PySem.W PySem.Calls PyProof.Rows L2
theorem dec2 {c : Codec} {cs : List Codec} {ds : List WData} {r : Codec.denoteAll (c :: cs)} (h : Codec.decAll (c :: cs) ds = some r) : ∃ d ds', ds = d :: ds' ∧ c.dec d = some r.1 ∧ Codec.decAll cs ds' = some r.2 := by
  cases ds with
  | nil => cases h
  | cons d ds' =>
    obtain ⟨a, b, h1, h2, rfl⟩ := Codec.both_inv Prod.mk (c.dec d) (Codec.decAll cs ds') r h
    exact ⟨d, ds', rfl, h1, h2⟩
theorem A6e {ds : List WData} {r : Codec.denoteAll []} (h : Codec.decAll [] ds = some r) : ds = [] := by
  cases ds with
  | nil => rfl
  | cons d ds' => cases h
theorem AQq {least most : Nat} {lo hi : Int} {d : WData} {ns : List Int} (h : (Codec.list least most (.int lo hi)).dec d = some ns) : d = .list (ns.map WData.int) ∧ least ≤ ns.length ∧ ns.length ≤ most ∧ ∀ x ∈ ns, lo ≤ x ∧ x ≤ hi := by
  obtain ⟨e, hw⟩ := Codec.enc_of_dec _ _ _ h
  have hw : Codec.inList least most (Codec.inInt lo hi) ns = true := hw
  unfold Codec.inList Codec.inLen at hw
  obtain ⟨h1, h2⟩ := Codec.and_of hw
  obtain ⟨h3, h4⟩ := Codec.inNat_iff.mp h1
  exact ⟨e, h3, h4, fun x hx => Codec.inInt_iff.mp (List.all_eq_true.mp h2 x hx)⟩
theorem A9x {lo hi : Int} {d : WData} {z : Int} (h : (Codec.int lo hi).dec d = some z) : d = .int z ∧ lo ≤ z ∧ z ≤ hi := by
  obtain ⟨e, hw⟩ := Codec.decInt_inv h
  exact ⟨e, Codec.inInt_iff.mp hw⟩
theorem ARb {P : Params} {h : Heap} : ∀ (ns : List Int) (vs : List Value), WellAll P h vs (ns.map WData.int) → IntsAre vs ns
  | [], vs, w => by
    cases w
    exact .nil
  | n :: ns, vs, w => by
    cases w with
    | cons a b =>
      cases a
      exact .cons _ _ (ARb ns _ b)
theorem ANq {P : Params} {h : Heap} {v : Value} {ns : List Int} (w : Well P h v (.list (ns.map WData.int))) (hz : ns.length ≤ sizeLine) : ∃ a, v = .ref a ∧ ArgL h a ns := by
  cases w with
  | list ho hall => exact ⟨_, rfl, _, ho, ARb ns _ hall, hz⟩
theorem A3h {P : Params} {h : Heap} {v : Value} {z : Int} (w : Well P h v (.int z)) : ∃ t, v = .int z t := by
  cases w
  exact ⟨_, rfl⟩
theorem AO0 {R : WRecords} {cl : Str → Option Addr} {h : Heap} : ∀ {vs : List Value} {ns : List Int}, IntsAre vs ns → ReadsAllW R cl h vs (ns.map WData.int) []
  | _, _, .nil => .nil
  | _, _, .cons n t r => .cons (as := []) (bs := []) (.int n t) (AO0 r)
theorem AYe {r : OpenSpec} {args : List WData} {s₁ s' : Shared} {res : Result} {cl : Str → Option Addr} {mean : ExcName → Option Value} {out : List Int} (he : A11 out s₁ res s') (hp : r.post args (.list (out.map WData.int)) = true) :
    GoodWG r.claim cl mean args s₁ res s' := by
  obtain ⟨p, its, n, rfl, hg, hi, ho, hos, hb⟩ := he
  refine ⟨.inl ⟨.ref p, .list (out.map WData.int), p :: [], rfl, fun _ => rfl, ?_, hp, fun z => by cases z⟩, ho, hos, hb⟩
  exact .list (vs := its.toArray) (n := n) hg rfl rfl (by simpa using AO0 hi)
theorem A8g {P : Program} {w : World} {K : Frag} {mg mb : Str → Option Value} {k : Nat} {fa : Addr} {x : Str} {ps : List Str} {sp : Sp} {s₁ : Shared} {us : List Value} {vs : List V} {L : List Addr} {out : List Int}
    (KX : K.In s₁.heap) (hns : s₁.heap.Ns mainGlobals mg) (hb : s₁.heap.Ns builtinsNs mb) (hbb : ∀ x : Str, x ≠ "__name__" → mb x = bootBuiltins x) (hlim : s₁.heap.NoLimit) (hg : s₁.gens = #[])
    (hr : Room k callerA) (hL : ∀ a ∈ L, ∃ ns, ArgL s₁.heap a ns)
    (F : ∀ base : Heap, K.In base → base.Ns mainGlobals mg → Fn P w K mg base x k ps sp) (hm : mg x = some (.ref fa)) (hlen : us.length = ps.length) (hv : Vals vs us)
    (hsp : sp vs (given K s₁.heap L) (fun v H' => ∃ p, v = .ref p ∧ H' p = some (.lst (out.map V.int))) E0) :
    codeAny (model P w) callerA (.call (.ref fa) ⟨us, []⟩) (A11 out s₁) s₁ := by
  have noD : ∀ {b : Addr} {o : Obj} {es : Array DictEntry} {ep : Nat}, s₁.heap.get? b = some o → o.data = .dict es ep → given K s₁.heap L b = none := fun {b o es ep} e d => by
    cases q : given K s₁.heap L b with
    | none => rfl
    | some u =>
      obtain ⟨_, _, ob, ns, _, ho, zs, hz, _⟩ := AIc q
      rw [e] at hz
      cases hz
      have d' : Data.seq zs.toArray _ = Data.dict es ep := d
      cases d'
  have nsK : ∀ {b : Addr} {m : Str → Option Value}, s₁.heap.Ns b m → (hidT s₁.heap (given K s₁.heap L)).Ns b m := fun {b m} ⟨o, es, ep, e, d, r⟩ => ⟨o, es, ep, AU7 e (noD e d), d, r⟩
  have hKb : K.In (hidT s₁.heap (given K s₁.heap L)) := fun b o e => AU7 (KX b o e) (by
    cases q : given K s₁.heap L b with
    | none => rfl
    | some u =>
      have z := (AIc q).2.1
      rw [e] at z
      cases z)
  have hM : Mod K mg (hidT s₁.heap (given K s₁.heap L)) := ⟨hKb, nsK hns, ⟨mb, nsK hb, hbb⟩, let ⟨mc, h1, h2⟩ := hlim; ⟨mc, nsK h1, h2⟩⟩
  have e0 : Env0 P w K mg (hidT s₁.heap (given K s₁.heap L)) callerA [] s₁ (given K s₁.heap L) :=
    ⟨rfl, hM, fun b o e => A6r e, Nat.le_of_eq (AZm _ _), trivial, fun b hb => absurd (show b ∈ ([] : List Addr) from hb) (by simp), A43, .of_eq hg⟩
  obtain ⟨_, fd, hbd, FO⟩ := (F _ hKb (nsK hns)).can hm
  have hbind := hbd s₁ us KX (by rw [List.append_nil]; exact hlen)
  rw [List.append_nil] at hbind
  refine codeAny_mono (FO.run callerA [] s₁ (given K s₁.heap L) ⟨us, []⟩ us vs _ _ hr e0 hbind hv hsp) fun r s' h => ?_
  cases r with
  | error e => exact False.elim h
  | ok fl =>
    cases fl with
    | next => exact False.elim h
    | brk => exact False.elim h
    | cont => exact False.elim h
    | ret u =>
      obtain ⟨v, H', os, bare, un, hok', r', p, ev, hp⟩ := h
      subst ev
      obtain rfl : u = Value.ref p := r'
      obtain ⟨_, its, n, rel, hget⟩ := hok' p _ hp
      refine ⟨p, its, n, rfl, hget, rel.ints, OldK.of_keep fun b o e => ?_, os, bare⟩
      cases q : given K s₁.heap L b with
      | none => exact un.keep b o e q (fun z => absurd (show b ∈ ([] : List Addr) from z) (by simp)) (by simp)
      | some u =>
        obtain ⟨_, _, ob, ns, rfl, ho, _⟩ := AIc q
        obtain ⟨e2, _⟩ := hok' b _ (un.frzs b ob _ q)
        rw [e] at ho
        cases ho
        exact e2
end LX
namespace LX
open PySem PySem.Spec PyProof.Rows L2
noncomputable def Is (t : TE) (σ : L2.St) (H : Hp) (v : V) : Prop := ∀ Q : VK, Q v H → t σ H Q
noncomputable def IsA (t : TA) (σ : L2.St) (H : Hp) (vs : List V) : Prop := ∀ Q : List V → Hp → Prop, Q vs H → t σ H Q
section
variable {σ : L2.St} {H : Hp} {i j x y : Nat} {v v' : V} {ta tb ti : TE} {K : Frag} {a : Addr} {xs : List V} {c : TT} {p : Prop} [Decidable p]
theorem AAc (h : σ[i]? = some (some v)) : Is (tVar i) σ H v := fun _ q => ⟨v, h, q⟩
theorem is_c : Is (tC v) σ H v := fun _ q => q
theorem AFw (h : Is ta σ H v) (e : v = v') : Is ta σ H v' := e ▸ h
theorem is_n {g : Nat → Nat → Nat} (ha : Is ta σ H (vN x)) (hb : Is tb σ H (vN y)) : Is (tOp (rN g) ta tb) σ H (vN (g x y)) := fun Q q => ha _ (hb _ ⟨x, y, rfl, rfl, q⟩)
theorem AIw {g : Nat → Nat → Nat} {d : Nat → Nat → Prop} (ha : Is ta σ H (vN x)) (hb : Is tb σ H (vN y)) (h : d x y) : Is (tOp (rNC d g) ta tb) σ H (vN (g x y)) := fun Q q => ha _ (hb _ ⟨x, y, rfl, rfl, h, q⟩)
theorem is_i {g : Int → Int → V} {m n : Int} (ha : Is ta σ H (.int m)) (hb : Is tb σ H (.int n)) : Is (tOp (rI0 g) ta tb) σ H (g m n) := fun Q q => ha _ (hb _ ⟨m, n, rfl, rfl, q⟩)
theorem BAk {g : Int → Int → V} {d : Int → Int → Prop} {m n : Int} (ha : Is ta σ H (.int m)) (hb : Is tb σ H (.int n)) (h : d m n) : Is (tOp (rI d g) ta tb) σ H (g m n) := fun Q q => ha _ (hb _ ⟨m, n, rfl, rfl, h, q⟩)
theorem AKr (ha : Is ta σ H (.ref a)) (hb : Is tb σ H (vN j)) (hS : SqL K H a xs) (h : xs[j]? = some v) : Is (tOp (rIxL K) ta tb) σ H v := fun Q q => ha _ (hb _ ⟨a, xs, _, v, rfl, rfl, hS, atN h, q⟩)
theorem AQw (ha : Is ta σ H (.ref a)) (hb : Is tb σ H (vN j)) (hS : SqT K H a xs) (h : xs[j]? = some v) : Is (tOp (rIxT K) ta tb) σ H v := fun Q q => ha _ (hb _ ⟨a, xs, _, v, rfl, rfl, hS, atN h, q⟩)
theorem APp (hb : Is tb σ H (vN j)) (h : xs[j]? = some v) : Is (tOp (rIxT K) (tGr (TupK K xs)) tb) σ H v := fun Q q a ha => hb _ ⟨a, xs, _, v, rfl, rfl, ha.sq, atN h, q⟩
theorem AZu {b b' : Bool} (h : Pure c σ H b) (e : b = b') : Pure c σ H b' := e ▸ h
theorem ABg {t : TE} {b : Bool} (h : Is t σ H (.bl b)) : Pure (A50 t) σ H b := fun Q q => h _ ⟨b, rfl, q⟩
theorem pu_b {t : TE} {b : Bool} (h : Is t σ H (.bl b)) : Pure (tB t) σ H b := fun Q q => h _ ⟨b, rfl, q⟩
theorem ANn {b : Bool} (h : Is ta σ H (vN x)) (e : (((x : Nat) : Int) != 0) = b) : Pure (fun σ H Q => ta σ H fun x H' => ∃ k, TruV K x H' k ∧ Q k H') σ H b := fun Q q => h _ ⟨_, e.symm, q⟩
theorem A2d (x y : Nat) : decide (V.int (x : Int) = V.int (y : Int)) = decide (x = y) := decide_eq_decide.mpr (by rw [V.int.injEq]; exact Int.natCast_inj)
theorem ADa (ha : Is ta σ H (vN x)) (hb : Is tb σ H (vN y)) : Is (tOp rEq ta tb) σ H (.bl (decide (x = y))) := fun Q q => ha _ (hb _ ⟨rfl, by rw [show decide (vN x = vN y) = decide (x = y) from A2d x y]; exact q⟩)
theorem AVy (ha : Is ta σ H (vN x)) (hb : Is tb σ H (vN y)) : Is (tOp rNe ta tb) σ H (.bl (!decide (x = y))) := fun Q q => ha _ (hb _ ⟨rfl, by rw [show decide (vN x = vN y) = decide (x = y) from A2d x y]; exact q⟩)
theorem AT9 {s z : Str} (ha : Is ta σ H (.str s)) (hb : Is tb σ H (.str z)) (e : s = z ↔ p) : Is (tOp rEq ta tb) σ H (.bl (decide p)) := fun Q q => ha _ (hb _ ⟨rfl, by rw [show decide (V.str s = V.str z) = decide p from decide_eq_decide.mpr (by rw [V.str.injEq]; exact e)]; exact q⟩)
theorem A4f (ha : Is ta σ H (vN x)) (hb : Is tb σ H (vN y)) : Is (tOp (rI0 fun i j => .bl (decide (i < j))) ta tb) σ H (.bl (decide (x < y))) := AFw (is_i ha hb) (congrArg V.bl (decide_eq_decide.mpr Int.ofNat_lt))
theorem A3g (ha : Is ta σ H (vN x)) (hb : Is tb σ H (vN y)) : Is (tOp (rI0 fun i j => .bl (decide (j < i))) ta tb) σ H (.bl (decide (y < x))) := AFw (is_i ha hb) (congrArg V.bl (decide_eq_decide.mpr Int.ofNat_lt))
theorem AU9 (hc : Pure c σ H (decide p)) (ha : Is ta σ H v) (hb : Is tb σ H v') : Is (tIf c ta tb) σ H (if p then v else v') := fun Q q => hc _ (by
  by_cases e : p
  · rw [if_pos e] at q; rw [decide_eq_true e]; exact iteT (ha Q q)
  · rw [if_neg e] at q; rw [decide_eq_false e]; exact iteF (hb Q q))
theorem ifsP {t u : TS} {D : Ends} (hc : Pure c σ H (decide p)) (h0 : p → t D σ H) (h1 : ¬ p → u D σ H) : tIfS c t u D σ H := ifs hc (by
  by_cases e : p
  · rw [decide_eq_true e]; exact iteT (h0 e)
  · rw [decide_eq_false e]; exact iteF (h1 e))
theorem AAs : IsA tNil σ H [] := fun _ q => q
theorem AAe {te : TE} {t : TA} {vs : List V} (h : Is te σ H v) (r : IsA t σ H vs) : IsA (ABx te t) σ H (v :: vs) := fun Q q => h _ (r _ q)
theorem APf {sp : Sp} {t : TA} {vs : List V} (h : IsA t σ H vs) (hs : ∀ Q : VK, Q v H → sp vs H Q E0) : Is (tFn sp t) σ H v := fun Q q => h _ (hs Q q)
theorem AJv {sp : Sp} {t : TA} {vs : List V} {Q : VK} (h : IsA t σ H vs) (hs : sp vs H Q E0) : tFn sp t σ H Q := h _ hs
end
end LX
namespace LX
open PySem PySem.Spec PyProof.Rows L2
noncomputable def BD3 (td ty tx : TE) : TE := fun σ H Q => td σ H fun x H1 => ∃ a, x = .ref a ∧ IsD H1 a ∧ ty σ H1 fun y H2 => tx σ H2 fun z H3 => ∃ kvs k, H3 a = some (.dK kvs) ∧ y = kV k ∧ kvs.length < sizeLine ∧
  (∀ v, valV kvs k = some v → Q v H3) ∧ (valV kvs k = none → Q z (upd H3 a (.dK (putK kvs k z))))
theorem AYd {X : Cx} {o e f : Expr} {apos cpos : Pos} {td ty tx : TE} (ho : PE X o td) (he : PE X e ty) (hf : PE X f tx) (m : M2 X o "setdefault" apos e f cpos) : PE X (.Call (.Attribute o "setdefault" apos) [e, f] [] cpos) (BD3 td ty tx) := by
  intro pins s σ H Q I h
  refine wpAny_Call_method m.base m.few m.line PySem.F.plainAttrs_dict PySem.F.slot_dict_setdefault PySem.F.type_dict_setdefault (thn (ho pins s σ H _ I h) fun u s1 ⟨x, H1, I1, rx, a, ex, d, q1⟩ => ?_)
  subst ex
  obtain rfl : u = Value.ref a := rx
  obtain ⟨t1, t2, _⟩ := BBc I1 d
  refine ⟨t1, t2, ?_⟩
  rw [m.trees]
  refine Calls.callWith_builtin rfl (Calls.evalArgs_plain (Calls.spliced_cons (thn (he pins s1 σ H1 _ I1 q1) fun iv s2 ⟨y, H2, I2, ry, q2⟩ =>
    Calls.spliced_cons (thn (hf pins s2 σ H2 _ I2 q2) fun fv s3 ⟨z, H3, I3, rz, kvs, k, ea, ey, hl, q3, q4⟩ => Calls.spliced_nil ?_))))
  subst ey
  obtain ⟨z0, hd, vs, rel, dd⟩ := BDl I3.hok ea
  refine call_meetsIn PySem.F.slot_dict_setdefault dd.typeIs PySem.F.entry_dict_setdefault (PySem.F.args_dict_setdefault_3 _ _ _) (kt_meets_setdefault (AD3 X.prog X.w) a (A65 ry) hd fv) ⟨vs, dd, by rw [← rel.length]; exact z0, fun v hv => ?_, fun hn h' dd' hs => ?_⟩
  · have rv := rel.val k
    rw [hv] at rv
    cases l : valV kvs k with
    | none => rw [l] at rv; exact rv.elim
    | some v' =>
      rw [l] at rv
      exact ⟨v', H3, I3.tok _, rv, q3 v' l⟩
  · have rv := rel.val k
    rw [hn] at rv
    cases l : valV kvs k with
    | some v' => rw [l] at rv; exact (show False from rv).elim
    | none =>
      have he : ∃ q, h'.get? a = some q := let ⟨q, _, _, hq, _⟩ := dd'; ⟨q, hq⟩
      have hl' : (putK kvs k z).length ≤ sizeLine := by have := AIx kvs k z; omega
      exact ⟨z, _, AUu I3 (by rw [ea]; exact True.intro) hs he (A6v hl' hd (rel.put k rz) dd'), rz, q4 l⟩
section
variable {prog : Program} {w : World} {A : Around} {E : Value → Shared → Prop} {s : Shared}
theorem AQx {K : Type} [DecidableEq K] {knd : PySem.KeyKind prog w K} {d : Addr} {kvs : List (K × Value)} {ep : Nat} {R : List Value → Shared → Prop} (hh : A.handled = none) (lo : (d == sysModules) = false) (hm : s.heap.DictAt knd d kvs ep) (hn : kvs.length ≤ sizeLine)
    (h : ∀ (h' : Heap) (tk : Nat) (acc : Array Value), (∀ b o, s.heap.get? b = some o → h'.get? b = some o) → ItemsOf (fun i v => ∃ k x, kvs[i]? = some (k, x) ∧ knd.is k v = true) acc kvs.length → R acc.toList { s with heap := h', toks := tk }) :
    wpAny (model prog w) A (collect (.ref d)) R E s := by
  have hd : d < s.heap.objs.size := hm.lt_size
  unfold collect
  refine wpAny_bind (wpAny_runValue (codeAny_builtin entry_proto_collect' ?_))
  rw [Around.under_plainId PySem.F.plain_proto_collect _]
  show wpAny _ A.in1 (newList [] >>= fun l => again (.builtin "list.__iadd__" ⟨[l, .ref d], []⟩)) _ _ s
  refine wpAny_bind (wpAny_newObj_type ?_)
  refine wpAny_pure ⟨plainId_quiet PySem.F.plain_list_iadd _, codeAny_builtin entry_list_iadd' ?_⟩
  rw [Around.under_plainId PySem.F.plain_list_iadd _]
  have hS₁ : (s.heap.push { cls := .type "list", data := .seq ([] : List Value).toArray }).get? s.heap.objs.size = some { cls := .type "list", data := .seq #[] } := Heap.get?_push_size _ rfl
  show wpAny _ A.in1 (Builtin.List.listExtendWith (.ref s.heap.objs.size) (.ref d) (.ref s.heap.objs.size)) _ _ _
  have key := PySem.W.kdl_extend (A := A) (s := { s with heap := s.heap.push { cls := .type "list", data := .seq ([] : List Value).toArray } }) (PySem.W.kdl_dict (prog := prog) (w := w) (knd := knd) (kvs := kvs) (ep := ep) lo)
    (R := fun (q : Result) (s' : Shared) => ∃ (h' : Heap) (tk : Nat) (acc' : Array Value) (c' : Nat), q = .ok (.ret (.ref s.heap.objs.size)) ∧ s' = { s with heap := h', toks := tk } ∧
      (∀ b o, s.heap.get? b = some o → h'.get? b = some o) ∧ h'.get? s.heap.objs.size = some { cls := .type "list", dict := none, data := .seq acc' c', slots := #[] } ∧ ItemsOf (fun i v => ∃ k x, kvs[i]? = some (k, x) ∧ knd.is k v = true) acc' kvs.length)
    hh (hm.push _) s.heap.objs.size (Nat.ne_of_gt hd) (Nat.ne_of_gt hd) (.ref s.heap.objs.size) 0 hS₁
    (fun h' tk acc' c' hk hS' hacc => ⟨h', tk, acc', c', rfl, rfl, fun b o e => hk b o (Nat.ne_of_lt (Heap.lt_size e)) (Heap.get?_push_of_some _ e), hS', hacc⟩) hn
  refine wpAny_mono key (fun fin s' x => ?_) fun e s' x => ?_
  · cases fin with
    | done f =>
      obtain ⟨h', tk, acc', c', e, rfl, hk, hS', hacc⟩ := x
      cases e
      show wpAny _ A (load s.heap.objs.size >>= _) _ _ _
      refine wpAny_bind (wpAny_load hS' ?_)
      exact wpAny_pure (h h' tk acc' hk hacc)
    | again c =>
      refine ⟨x.1, codeAny_mono x.2 fun q s' y => ?_⟩
      obtain ⟨h', tk, acc', c', rfl, rfl, hk, hS', hacc⟩ := y
      show wpAny _ A (load s.heap.objs.size >>= _) _ _ _
      refine wpAny_bind (wpAny_load hS' ?_)
      exact wpAny_pure (h h' tk acc' hk hacc)
  · obtain ⟨_, _, _, _, e, _⟩ := x
    cases e
theorem A9r {P : Program} {w : World} {i : Int} {v : Value} (h : (AD3 P w).is (.inl i) v = true) : ∃ t, v = .int i t := by
  rw [AVf] at h
  cases v <;> first | exact (Bool.false_ne_true h).elim | skip
  all_goals first | (obtain rfl := of_decide_eq_true h; exact ⟨_, rfl⟩) | (simp [AZp] at h; done) | (simp [AZp] at h; obtain rfl := h; exact ⟨_, rfl⟩)
theorem A1l : ∀ {vs : List Value} {ns : List Int}, vs.length = ns.length → (∀ (j : Nat) v n, vs[j]? = some v → ns[j]? = some n → ∃ t, v = .int n t) → IntsAre vs ns
  | [], [], _, _ => .nil
  | [], _ :: _, h, _ => by cases h
  | _ :: _, [], h, _ => by cases h
  | v :: vs, n :: ns, h, f => by
    obtain ⟨t, rfl⟩ := f 0 v n rfl rfl
    exact .cons n t (A1l (Nat.succ.inj h) fun j v n h1 h2 => f (j + 1) v n h1 h2)
noncomputable def A4e : List V → Hp → VK → Prop := fun vs H Q => ∃ (a : Addr) (kvs : List (Key × V)) (ns : List Int), vs = [V.ref a] ∧ H a = some (.dK kvs) ∧ kvs.map (·.1) = ns.map Sum.inl ∧
  ∀ (ns' : List Int) (p : Addr), ns'.Perm ns → ns'.Pairwise (· ≤ ·) → H p = none → Q (.ref p) (upd H p (.lst (ns'.map V.int)))
theorem AQr {X : Cx} (hc : X.calm = true) : A62 X (.builtin "sorted") A4e := by
  intro pins s σ H vs us Q I r h
  obtain ⟨a, kvs, ns, rfl, ha, hk, q⟩ := h
  rw [Vals.ref1 r]
  obtain ⟨z, hd, ws, rel, o, es, ep, g1, g2, g3, g4, g5, g6⟩ := BDl I.hok ha
  have dd : s.heap.DictAt (AD3 X.prog X.w) a ws ep := ⟨o, es, g1, g2, g3, g4, g5, g6⟩
  have hz : ws.length ≤ sizeLine := by rw [← rel.length]; exact z
  have hkey := rel.keys
  rw [hk] at hkey
  refine Calls.call_function_entry kind_sorted plain_sorted entry_sorted (args_sorted1 _) ?_
  unfold Builtin.«sorted»
  refine wpAny_bind (m := checkCount "sorted" 1 1 _) (wpAny_pure ?_)
  refine wpAny_bind (AQx (I.ok.hd hc) hd dd hz fun h' tk acc hkeep hacc => ?_)
  have I1 : Inv X pins σ H { s with heap := h', toks := tk } := I.kept hkeep
  have hln : acc.toList.length = ns.length := by
    rw [Array.length_toList, hacc.1]
    have z := congrArg List.length hkey
    rw [List.length_map, List.length_map] at z
    exact z.symm
  have hI : IntsAre acc.toList ns := A1l hln fun j v n h1 h2 => by
    rw [Array.getElem?_toList] at h1
    obtain ⟨k, x, e1, e2⟩ := hacc.2 j v h1
    have e3 := congrArg (·[j]?) hkey
    simp only [List.getElem?_map, h2, e1, Option.map_some, Option.some.injEq] at e3
    rw [← e3] at e2
    exact A9r e2
  have hL : acc.toList.length ≤ sizeLine := by
    rw [Array.length_toList, hacc.1]
    exact hz
  refine wpAny_bind (wpAny_newList ?_)
  have hoL : (h'.push (seqObj "list" acc.toList.toArray 0)).get? h'.objs.size = some (seqObj "list" acc.toList.toArray 0) := Heap.get?_push_size _ rfl
  refine wpAny_bind (wpAny_holding (wpAny_call_entry slot_list_sort ⟨_, hoL, rfl⟩ entry_list_sort (list_sort_treeAny hoL hI hL fun out ns' a1 a2 a3 => ⟨_, rfl, ?_⟩) (args_list_sort _)))
  obtain ⟨ep', he'⟩ := sortedHeap_at (vs := acc.toList) (out := out) hoL
  have hlen : (ns'.map V.int).length ≤ sizeLine := by
    rw [List.length_map, a2.length_eq, ← hln]
    exact hL
  refine wpAny_pure ⟨_, rfl, .ref _, upd H h'.objs.size (.lst (ns'.map V.int)), I1.laid (t' := tk) (fun b u hu => ?_) (Nat.le_refl _) ⟨hlen, out.toList, ep', AKm a1, he'⟩, rfl, q ns' _ a2 a3 (I1.hok.fresh (Nat.le_refl _))⟩
  have hb : b < h'.objs.size := Heap.lt_size hu
  rw [sortedHeap_old (Nat.ne_of_lt hb) (by rw [size_push']; exact Nat.lt_succ_of_lt hb)]
  exact Heap.get?_push_of_some _ hu
end
end LX
namespace Chip
theorem ALz (x i : Nat) : Sd12.bit x i = x.testBit i := by
  unfold Sd12.bit
  rw [Nat.testBit_eq_decide_div_mod_eq]
  rcases Nat.mod_two_eq_zero_or_one (x / 2 ^ i) with e | e <;> rw [e] <;> rfl
theorem toNat_lt (b : Bool) : Sd12.toNat b < 2 := by cases b <;> decide
theorem A1z {x : Nat} (h : x < 2 ^ 32) : x / 2 ^ 31 = Sd12.toNat (Sd12.bit x 31) := by
  unfold Sd12.bit Sd12.toNat
  have z : x / 2 ^ 31 = 0 ∨ x / 2 ^ 31 = 1 := by omega
  rcases z with e | e <;> rw [e] <;> rfl
theorem A00 (x i : Nat) : x / 2 ^ i % 2 = Sd12.toNat (Sd12.bit x i) := by
  unfold Sd12.bit Sd12.toNat
  rcases Nat.mod_two_eq_zero_or_one (x / 2 ^ i) with e | e <;> rw [e] <;> rfl
theorem AYx (a b c : Nat) : (Sd12.add a b c).1 < 2 ^ 32 := Nat.mod_lt _ (by decide)
theorem AY1 {a b c : Nat} (ha : a < 2 ^ 32) (hb : b < 2 ^ 32) (hc : c < 2) : (a + b + c) / 2 ^ 32 = Sd12.toNat (Sd12.add a b c).2.1 := by
  show (a + b + c) / 2 ^ 32 = if decide (2 ^ 32 ≤ a + b + c) = true then 1 else 0
  by_cases h : 2 ^ 32 ≤ a + b + c
  · rw [if_pos (by simpa using h)]
    omega
  · rw [if_neg (by simpa using h)]
    omega
theorem A4b {a b c : Nat} (ha : a < 2 ^ 32) (hb : b < 2 ^ 32) : ((a ^^^ (Sd12.add a b c).1) &&& (b ^^^ (Sd12.add a b c).1)) / 2 ^ 31 = Sd12.toNat (Sd12.add a b c).2.2 := by
  have hr := AYx a b c
  have e : (Sd12.add a b c).2.2 = (Sd12.bit a 31 == Sd12.bit b 31 && Sd12.bit (Sd12.add a b c).1 31 != Sd12.bit a 31) := rfl
  rw [e]
  generalize (Sd12.add a b c).1 = r at hr
  have hx : (a ^^^ r) &&& (b ^^^ r) < 2 ^ 32 := Nat.and_lt_two_pow _ (Nat.xor_lt_two_pow hb hr)
  rw [A1z hx, ALz, ALz, ALz, ALz, Nat.testBit_and, Nat.testBit_xor, Nat.testBit_xor]
  cases a.testBit 31 <;> cases b.testBit 31 <;> cases r.testBit 31 <;> rfl
theorem BCh (x : Nat) : x &&& 4294967295 = x % 2 ^ 32 := Nat.and_two_pow_sub_one_eq_mod x 32
theorem A3p {b : Nat} (h : b < 2 ^ 32) : b ^^^ 4294967295 = Sd12.not32 b := by
  have e1 : (2 ^ 32 - 1 : Nat) = 4294967295 := rfl
  have e2 : Sd12.not32 b = 2 ^ 32 - (b + 1) := by
    show 2 ^ 32 - 1 - b = _
    omega
  rw [e2]
  apply Nat.eq_of_testBit_eq
  intro i
  rw [Nat.testBit_two_pow_sub_succ h, Nat.testBit_xor, ← e1, Nat.testBit_two_pow_sub_one]
  by_cases c : i < 32
  · rw [decide_eq_true c]
    cases b.testBit i <;> rfl
  · rw [decide_eq_false c, Nat.testBit_lt_two_pow (Nat.lt_of_lt_of_le h (Nat.pow_le_pow_right (by decide) (by omega)))]
    rfl
theorem not_lt (b : Nat) : Sd12.not32 b < 2 ^ 32 := by
  show 2 ^ 32 - 1 - b < 2 ^ 32
  omega
theorem A8d {x n : Nat} {c : Bool} (hx : x < 2 ^ 32) (hn : n ≠ 0) : Sd12.shift 0 x n c = (x * 2 ^ n % 2 ^ 32, Sd12.bit (x * 2 ^ n) 32) := by
  unfold Sd12.shift
  rw [if_neg hn, if_pos rfl]
  by_cases h : n < 32
  · rw [if_pos h]
    refine Prod.ext rfl ?_
    show Sd12.bit x (32 - n) = Sd12.bit (x * 2 ^ n) 32
    rw [ALz, ALz, Nat.testBit_mul_two_pow, decide_eq_true (by omega : n ≤ 32)]
    rfl
  · rw [if_neg h]
    have hd : 2 ^ 32 ∣ x * 2 ^ n := Nat.dvd_trans (Nat.pow_dvd_pow 2 (by omega)) (Nat.dvd_mul_left _ _)
    refine Prod.ext (Nat.mod_eq_zero_of_dvd hd).symm ?_
    show (n == 32 && Sd12.bit x 0) = Sd12.bit (x * 2 ^ n) 32
    rw [ALz, ALz, Nat.testBit_mul_two_pow]
    by_cases e : n = 32
    · subst e
      rfl
    · rw [decide_eq_false (by omega), Bool.false_and, beq_eq_false_iff_ne.mpr e]
      rfl
theorem A6s {x n : Nat} {c : Bool} (hx : x < 2 ^ 32) (hn : n ≠ 0) : Sd12.shift 1 x n c = (x / 2 ^ n, Sd12.bit x (n - 1)) := by
  unfold Sd12.shift
  rw [if_neg hn, if_neg (by decide), if_pos rfl]
  by_cases h : n < 32
  · rw [if_pos h]
  · rw [if_neg h]
    have z : x / 2 ^ n = 0 := Nat.div_eq_of_lt (Nat.lt_of_lt_of_le hx (Nat.pow_le_pow_right (by decide) (by omega)))
    refine Prod.ext z.symm ?_
    show (n == 32 && Sd12.bit x 31) = Sd12.bit x (n - 1)
    by_cases e : n = 32
    · subst e
      rfl
    · rw [beq_eq_false_iff_ne.mpr e, ALz, ALz, Nat.testBit_lt_two_pow (Nat.lt_of_lt_of_le hx (Nat.pow_le_pow_right (by decide) (by omega : 32 ≤ n - 1)))]
      rfl
theorem A8c {x n : Nat} {c : Bool} (hx : x < 2 ^ 32) (hn : n ≠ 0) : Sd12.shift 3 x n c = ((x / 2 ^ (n % 32) ||| x * 2 ^ (32 - n % 32)) % 2 ^ 32, Sd12.bit ((x / 2 ^ (n % 32) ||| x * 2 ^ (32 - n % 32)) % 2 ^ 32) 31) := by
  have e : (if n % 32 = 0 then x else x / 2 ^ (n % 32) + x * 2 ^ (32 - n % 32) % 2 ^ 32) = (x / 2 ^ (n % 32) ||| x * 2 ^ (32 - n % 32)) % 2 ^ 32 := by
    have hk : n % 32 < 32 := Nat.mod_lt _ (by decide)
    generalize n % 32 = k at hk
    by_cases h : k = 0
    · subst h
      rw [if_pos rfl, Nat.or_mod_two_pow]
      show x = (x / 1 % 2 ^ 32) ||| (x * 2 ^ 32 % 2 ^ 32)
      rw [Nat.mul_mod_left, Nat.or_zero, Nat.div_one, Nat.mod_eq_of_lt hx]
    · rw [if_neg h, Nat.or_mod_two_pow]
      have hp : (2 : Nat) ^ 32 = 2 ^ (32 - k) * 2 ^ k := by rw [← Nat.pow_add]; congr 1; omega
      have h1 : x / 2 ^ k < 2 ^ (32 - k) := Nat.div_lt_of_lt_mul (by rw [Nat.mul_comm, ← hp]; exact hx)
      have h2 : x / 2 ^ k % 2 ^ 32 = x / 2 ^ k := Nat.mod_eq_of_lt (Nat.lt_of_le_of_lt (Nat.div_le_self _ _) hx)
      have h3 : x * 2 ^ (32 - k) % 2 ^ 32 = 2 ^ (32 - k) * (x % 2 ^ k) := by rw [hp, Nat.mul_comm x, Nat.mul_mod_mul_left]
      rw [h2, h3, Nat.or_comm, ← Nat.two_pow_add_eq_or_of_lt h1, Nat.add_comm]
  unfold Sd12.shift
  rw [if_neg hn, if_neg (by decide), if_neg (by decide), if_neg (by decide)]
  show ((if n % 32 = 0 then x else x / 2 ^ (n % 32) + x * 2 ^ (32 - n % 32) % 2 ^ 32), Sd12.bit (if n % 32 = 0 then x else x / 2 ^ (n % 32) + x * 2 ^ (32 - n % 32) % 2 ^ 32) 31) = _
  rw [e]
noncomputable def sgn (x : Nat) : Int := (x : Int) - 2 * ((x &&& 2147483648 : Nat) : Int)
theorem BBy {x : Nat} (one : x &&& 2147483648 = x / 2 ^ 31 % 2 * 2 ^ 31) (hx : x < 2 ^ 32) : sgn x = if Sd12.bit x 31 = true then (x : Int) - 4294967296 else x := by
  unfold sgn
  rw [one]
  unfold Sd12.bit
  have z : x / 2 ^ 31 = 0 ∨ x / 2 ^ 31 = 1 := by omega
  rcases z with e | e
  · rw [e, if_neg (by decide)]
    omega
  · rw [e, if_pos (by decide)]
    omega
theorem pow_int (n : Nat) : ((2 : Int) ^ n) = ((2 ^ n : Nat) : Int) := by simp
theorem A80 {x n : Nat} {c : Bool} (one : x &&& 2147483648 = x / 2 ^ 31 % 2 * 2 ^ 31) (hx : x < 2 ^ 32) (hn : n ≠ 0) :
    Sd12.shift 2 x n c = ((sgn x / 2 ^ n % 4294967296).toNat, decide (sgn x / 2 ^ (n - 1) % 2 = 1)) := by
  rw [BBy one hx]
  unfold Sd12.shift
  rw [if_neg hn, if_neg (by decide), if_neg (by decide), if_pos rfl]
  by_cases b : Sd12.bit x 31 = true
  · rw [if_pos b]
    have hb : 2 ^ 31 ≤ x := by
      unfold Sd12.bit at b
      have b' : x / 2 ^ 31 % 2 = 1 := by simpa using b
      omega
    by_cases h : n < 32
    · rw [if_pos h, if_pos b]
      refine Prod.ext ?_ ?_
      · show (x + 18446744069414584320) / 2 ^ n % 4294967296 = _
        have e1 : (x : Int) - 4294967296 = ((x + 18446744069414584320 : Nat) : Int) + (2 ^ n : Int) * -(2 ^ (64 - n) : Int) := by
          have e2 : (2 : Int) ^ n * 2 ^ (64 - n) = 18446744073709551616 := by
            rw [← Int.pow_add, show n + (64 - n) = 64 from by omega]
            rfl
          rw [Int.mul_neg, e2]
          omega
        have hp : (2 : Int) ^ n ≠ 0 := by rw [pow_int]; have := Nat.two_pow_pos n; omega
        rw [e1, Int.add_mul_ediv_left _ _ hp]
        have e3 : (2 : Int) ^ (64 - n) = 4294967296 * 2 ^ (32 - n) := by
          rw [show 64 - n = 32 + (32 - n) from by omega, Int.pow_add]
          rfl
        rw [e3, ← Int.mul_neg, Int.add_mul_emod_self_left, pow_int]
        have e4 : (((x + 18446744069414584320 : Nat) : Int) / ((2 ^ n : Nat) : Int)) = (((x + 18446744069414584320) / 2 ^ n : Nat) : Int) := (Int.natCast_ediv _ _).symm
        rw [e4]
        generalize (x + 18446744069414584320) / 2 ^ n = N
        omega
      · show Sd12.bit x (n - 1) = _
        have e1 : (x : Int) - 4294967296 = (x : Int) + (2 ^ (n - 1) : Int) * -(2 ^ (33 - n) : Int) := by
          have e2 : (2 : Int) ^ (n - 1) * 2 ^ (33 - n) = 4294967296 := by
            rw [← Int.pow_add, show n - 1 + (33 - n) = 32 from by omega]
            rfl
          rw [Int.mul_neg, e2]
          omega
        have hp : (2 : Int) ^ (n - 1) ≠ 0 := by rw [pow_int]; have := Nat.two_pow_pos (n - 1); omega
        rw [e1, Int.add_mul_ediv_left _ _ hp]
        have e3 : (2 : Int) ^ (33 - n) = 2 * 2 ^ (32 - n) := by
          rw [show (33 - n) = (32 - n) + 1 from by omega, Int.pow_succ]; exact Int.mul_comm _ _
        rw [e3, ← Int.mul_neg, Int.add_mul_emod_self_left, pow_int]
        have e4 : ((x : Int) / ((2 ^ (n - 1) : Nat) : Int)) = ((x / 2 ^ (n - 1) : Nat) : Int) := (Int.natCast_ediv _ _).symm
        rw [e4]
        unfold Sd12.bit
        generalize x / 2 ^ (n - 1) = N
        rw [Bool.eq_iff_iff]
        simp only [beq_iff_eq, decide_eq_true_eq]
        omega
    · rw [if_neg h]
      have big : ∀ k, 31 ≤ k → ((x : Int) - 4294967296) / 2 ^ k = -1 := fun k hk => by
        have hp : 2 ^ 31 ≤ 2 ^ k := Nat.pow_le_pow_right (by decide) hk
        rw [pow_int]
        generalize 2 ^ k = q at hp
        have hq : (0 : Int) < (q : Int) := by omega
        refine Int.le_antisymm ?_ ?_
        · exact Int.le_of_lt_add_one (Int.ediv_lt_of_lt_mul hq (by omega))
        · exact Int.le_ediv_of_mul_le hq (by omega)
      simp only [if_pos b]
      rw [big n (by omega), big (n - 1) (by omega)]
      refine Prod.ext rfl ?_
      show Sd12.bit x 31 = true
      exact b
  · simp only [if_neg b]
    have hb : x < 2 ^ 31 := by
      unfold Sd12.bit at b
      have b' : ¬ x / 2 ^ 31 % 2 = 1 := by simpa using b
      omega
    have e0 : ∀ k, ((x : Int) / 2 ^ k) = ((x / 2 ^ k : Nat) : Int) := fun k => by rw [pow_int]; exact (Int.natCast_ediv _ _).symm
    rw [e0, e0]
    have hl : x / 2 ^ n ≤ x := Nat.div_le_self _ _
    by_cases h : n < 32
    · rw [if_pos h]
      refine Prod.ext ?_ ?_
      · show x / 2 ^ n = ((((x / 2 ^ n : Nat) : Int)) % 4294967296).toNat
        generalize x / 2 ^ n = N at hl ⊢
        omega
      · show Sd12.bit x (n - 1) = _
        unfold Sd12.bit
        generalize x / 2 ^ (n - 1) = N
        rw [Bool.eq_iff_iff]
        simp only [beq_iff_eq, decide_eq_true_eq]
        omega
    · rw [if_neg h]
      have z1 : x / 2 ^ n = 0 := Nat.div_eq_of_lt (Nat.lt_of_lt_of_le hb (Nat.pow_le_pow_right (by decide) (by omega)))
      have z2 : x / 2 ^ (n - 1) = 0 := Nat.div_eq_of_lt (Nat.lt_of_lt_of_le hb (Nat.pow_le_pow_right (by decide) (by omega)))
      rw [z1, z2]
      refine Prod.ext rfl ?_
      show Sd12.bit x 31 = false
      simpa using b
end Chip
namespace Chip
open PySem
theorem AJ8 (a k j : Nat) : a &&& (2 ^ j - 1) * 2 ^ k = a / 2 ^ k % 2 ^ j * 2 ^ k := by
  apply Nat.eq_of_testBit_eq
  intro i
  rw [Nat.testBit_and, Nat.testBit_mul_two_pow, Nat.testBit_mul_two_pow]
  by_cases l : k ≤ i
  · rw [decide_eq_true l, Bool.true_and, Bool.true_and, Nat.testBit_two_pow_sub_one, Nat.testBit_mod_two_pow, Nat.testBit_div_two_pow]
    rw [show i - k + k = i from by omega, Bool.and_comm]
  · rw [decide_eq_false l, Bool.false_and, Bool.false_and, Bool.and_false]
theorem nfc (a : Nat) : a &&& 4294967292 = a / 4 % 1073741824 * 4 := AJ8 a 2 30
theorem nfe (a : Nat) : a &&& 4294967294 = a / 2 % 2147483648 * 2 := AJ8 a 1 31
theorem zfc (x : Int) : Builtin.bitAnd x 4294967292 = x % 4294967296 / 4 * 4 := by
  by_cases hx : 0 ≤ x
  · rw [PyProof.Rows.bitAnd_pp hx (by decide)]
    have h : x.toNat &&& (4294967292 : Int).toNat = x.toNat / 4 % 1073741824 * 4 := nfc x.toNat
    rw [h]
    omega
  · rw [PyProof.Rows.bitAnd_np hx (by decide)]
    have h : (4294967292 : Int).toNat &&& (Builtin.bitNot x).toNat = (Builtin.bitNot x).toNat / 4 % 1073741824 * 4 := by
      rw [Nat.and_comm]
      exact nfc _
    rw [h]
    unfold Builtin.bitNot
    omega
theorem zfe (x : Int) : Builtin.bitAnd x 4294967294 = x % 4294967296 / 2 * 2 := by
  by_cases hx : 0 ≤ x
  · rw [PyProof.Rows.bitAnd_pp hx (by decide)]
    have h : x.toNat &&& (4294967294 : Int).toNat = x.toNat / 2 % 2147483648 * 2 := nfe x.toNat
    rw [h]
    omega
  · rw [PyProof.Rows.bitAnd_np hx (by decide)]
    have h : (4294967294 : Int).toNat &&& (Builtin.bitNot x).toNat = (Builtin.bitNot x).toNat / 2 % 2147483648 * 2 := by
      rw [Nat.and_comm]
      exact nfe _
    rw [h]
    unfold Builtin.bitNot
    omega
theorem AUe (x : Nat) (h : x < 2 ^ 32) : (x &&& 16711935) * 2 ^ 8 ||| x / 2 ^ 8 &&& 16711935 = x / 256 % 256 + 256 * (x % 256) + 65536 * (x / 16777216 % 256) + 16777216 * (x / 65536 % 256) := by
  have e1 : x &&& 16711935 = x % 256 + 65536 * (x / 65536 % 256) := by
    have a : (16711935 : Nat) = (2 ^ 8 - 1) * 2 ^ 16 ||| (2 ^ 8 - 1) := by decide
    rw [a, Nat.and_or_distrib_left, AJ8, Nat.and_two_pow_sub_one_eq_mod]
    rw [Nat.mul_comm, ← Nat.two_pow_add_eq_or_of_lt (i := 16) (by omega : x % 2 ^ 8 < 2 ^ 16)]
    omega
  have e2 : ∀ y, y &&& 16711935 = y % 256 + 65536 * (y / 65536 % 256) := fun y => by
    have a : (16711935 : Nat) = (2 ^ 8 - 1) * 2 ^ 16 ||| (2 ^ 8 - 1) := by decide
    rw [a, Nat.and_or_distrib_left, AJ8, Nat.and_two_pow_sub_one_eq_mod]
    rw [Nat.mul_comm, ← Nat.two_pow_add_eq_or_of_lt (i := 16) (by omega : y % 2 ^ 8 < 2 ^ 16)]
    omega
  rw [e1, e2]
  have p : ∀ a b c d : Nat, a < 256 → b < 256 → c < 256 → d < 256 → (a + 65536 * b) * 2 ^ 8 ||| (c + 65536 * d) = c + 256 * a + 65536 * d + 16777216 * b := by
    intro a b c d ha hb hc hd
    have q1 : (a + 65536 * b) * 2 ^ 8 = 2 ^ 24 * b ||| 2 ^ 8 * a := by
      rw [← Nat.two_pow_add_eq_or_of_lt (i := 24) (by omega : 2 ^ 8 * a < 2 ^ 24)]
      omega
    have q2 : c + 65536 * d = 2 ^ 16 * d ||| c := by
      rw [← Nat.two_pow_add_eq_or_of_lt (i := 16) (by omega : c < 2 ^ 16)]
      omega
    rw [q1, q2]
    have q3 : 2 ^ 24 * b ||| 2 ^ 8 * a ||| (2 ^ 16 * d ||| c) = 2 ^ 24 * b ||| (2 ^ 16 * d ||| (2 ^ 8 * a ||| c)) := by
      apply Nat.eq_of_testBit_eq
      intro i
      simp only [Nat.testBit_or]
      cases (2 ^ 24 * b).testBit i <;> cases (2 ^ 8 * a).testBit i <;> cases (2 ^ 16 * d).testBit i <;> cases c.testBit i <;> rfl
    rw [q3, ← Nat.two_pow_add_eq_or_of_lt (i := 8) (by omega : c < 2 ^ 8), ← Nat.two_pow_add_eq_or_of_lt (i := 16) (by omega : 2 ^ 8 * a + c < 2 ^ 16), ← Nat.two_pow_add_eq_or_of_lt (i := 24) (by omega : 2 ^ 16 * d + (2 ^ 8 * a + c) < 2 ^ 24)]
    omega
  rw [p _ _ _ _ (by omega) (by omega) (by omega) (by omega)]
  omega
end Chip
namespace Chip
open Sd12
noncomputable def row (h : Nat) : Nat :=
  if bits h 13 3 = 0 ∧ bits h 11 2 ≠ 3 then 1
  else if bits h 11 5 = 3 then 2
  else if bits h 13 3 = 1 then 3
  else if bits h 10 6 = 16 then 4
  else if bits h 10 6 = 17 then 5
  else if bits h 11 5 = 9 then 6
  else if bits h 12 4 = 5 then 7
  else if bits h 13 3 = 3 ∨ bits h 12 4 = 8 then 8
  else if bits h 12 4 = 9 then 9
  else if bits h 12 4 = 10 then 10
  else if bits h 12 4 = 11 then 11
  else if bits h 12 4 = 12 then 12
  else if bits h 12 4 = 13 then 13
  else if bits h 11 5 = 28 then 14
  else 15
noncomputable def rowU (u : Nat) : Nat :=
  if u / 8 % 8 = 0 ∧ u / 2 % 4 ≠ 3 then 1
  else if u / 2 % 32 = 3 then 2
  else if u / 8 % 8 = 1 then 3
  else if u % 64 = 16 then 4
  else if u % 64 = 17 then 5
  else if u / 2 % 32 = 9 then 6
  else if u / 4 % 16 = 5 then 7
  else if u / 8 % 8 = 3 ∨ u / 4 % 16 = 8 then 8
  else if u / 4 % 16 = 9 then 9
  else if u / 4 % 16 = 10 then 10
  else if u / 4 % 16 = 11 then 11
  else if u / 4 % 16 = 12 then 12
  else if u / 4 % 16 = 13 then 13
  else if u / 2 % 32 = 28 then 14
  else 15
theorem u2 (h : Nat) : h / 1024 / 2 = h / 2048 := Nat.div_div_eq_div_mul h 1024 2
theorem u4 (h : Nat) : h / 1024 / 4 = h / 4096 := Nat.div_div_eq_div_mul h 1024 4
theorem u8 (h : Nat) : h / 1024 / 8 = h / 8192 := Nat.div_div_eq_div_mul h 1024 8
theorem BAj (h : Nat) : row h = rowU (h / 1024) := by
  unfold rowU
  rw [u2, u4, u8]
  rfl
noncomputable def br (j h next : Nat) : Option Ins := match j with
  | 1 => some (.shiftImm (bits h 11 2) (bits h 0 3) (bits h 3 3) (bits h 6 5))
  | 2 => some (if bit h 10 = true then .addImm3 (bit h 9) (bits h 0 3) (bits h 3 3) (bits h 6 3) else .addReg (bit h 9) (bits h 0 3) (bits h 3 3) (bits h 6 3))
  | 3 => some (.imm8 (bits h 11 2) (bits h 8 3) (bits h 0 8))
  | 4 => some (.alu (bits h 6 4) (bits h 0 3) (bits h 3 3))
  | 5 => if bits h 8 2 = 3 then (if bits h 0 3 ≠ 0 ∨ bits h 3 4 = 15 then none else some (.branchReg (bit h 7) (bits h 3 4)))
    else if bits h 8 2 = 1 ∧ ((bits h 0 3 + 8 * bits h 7 1 < 8 ∧ bits h 3 4 < 8) ∨ bits h 0 3 + 8 * bits h 7 1 = 15 ∨ bits h 3 4 = 15) then none
    else if bits h 8 2 = 0 ∧ bits h 0 3 + 8 * bits h 7 1 = 15 ∧ bits h 3 4 = 15 then none
    else some (.high (bits h 8 2) (bits h 0 3 + 8 * bits h 7 1) (bits h 3 4))
  | 6 => some (.literal (bits h 8 3) (bits h 0 8))
  | 7 => some (.memReg (bits h 9 3) (bits h 0 3) (bits h 3 3) (bits h 6 3))
  | 8 => some (.memImm (if bits h 12 4 = 8 then (if bit h 11 = true then 5 else 1) else (if bit h 12 = true then 2 else 0) + (if bit h 11 = true then 4 else 0)) (bits h 0 3) (bits h 3 3) (bits h 6 5))
  | 9 => some (.memImm (if bit h 11 = true then 4 else 0) (bits h 8 3) 13 (bits h 0 8))
  | 10 => some (.adr (bit h 11) (bits h 8 3) (bits h 0 8))
  | 11 => if bits h 8 4 = 0 then some (.spMove (bit h 7) (bits h 0 7))
    else if bits h 8 4 = 2 then some (.extend (bits h 6 2) (bits h 0 3) (bits h 3 3))
    else if bits h 8 4 = 4 ∨ bits h 8 4 = 5 then (if bits h 0 9 = 0 then none else some (.push (listOf (bits h 0 8) ++ if bits h 8 4 = 5 then [14] else [])))
    else if bits h 8 4 = 12 ∨ bits h 8 4 = 13 then (if bits h 0 9 = 0 then none else some (.pop (listOf (bits h 0 8) ++ if bits h 8 4 = 13 then [15] else [])))
    else if bits h 8 4 = 10 then (if bits h 6 2 = 2 then none else some (.reverse (bits h 6 2) (bits h 0 3) (bits h 3 3)))
    else if bits h 8 4 = 14 then some (.halt_ (bits h 0 8))
    else if bits h 8 4 = 15 ∧ bits h 0 4 = 0 then some (.nothing false)
    else none
  | 12 => if listOf (bits h 0 8) = [] ∨ (bit h 11 = false ∧ (listOf (bits h 0 8)).contains (bits h 8 3) = true ∧ (listOf (bits h 0 8)).head? ≠ some (bits h 8 3)) then none else some (.many (bit h 11) (bits h 8 3) (listOf (bits h 0 8)))
  | 13 => if bits h 8 4 = 14 then none else if bits h 8 4 = 15 then some (.call (bits h 0 8)) else some (.cond (bits h 8 4) (offset 8 (bits h 0 8)))
  | 14 => some (.branch (offset 11 (bits h 0 11)))
  | _ => if bits h 11 5 = 30 ∧ bits next 14 2 = 3 ∧ bit next 12 = true then
      some (.link (offset 24 (toNat (bit h 10) * 2 ^ 23 + (1 - (toNat (bit next 13) + toNat (bit h 10)) % 2) * 2 ^ 22 + (1 - (toNat (bit next 11) + toNat (bit h 10)) % 2) * 2 ^ 21 + bits h 0 10 * 2 ^ 11 + bits next 0 11)))
    else if h = 0xF3BF ∧ (next / 16 = 0x8F4 ∨ next / 16 = 0x8F5 ∨ next / 16 = 0x8F6) then some (.nothing true)
    else none
theorem AF2 {c : Prop} [Decidable c] {a x : Option Ins} {j r h nx : Nat} (h1 : a = br j h nx) (h2 : x = br r h nx) : (if c then a else x) = br (if c then j else r) h nx := by
  by_cases e : c
  · rw [if_pos e, if_pos e]; exact h1
  · rw [if_neg e, if_neg e]; exact h2
theorem AIf (h nx : Nat) : decode h nx = br (row h) h nx :=
  AF2 rfl (AF2 rfl (AF2 rfl (AF2 rfl (AF2 rfl (AF2 rfl (AF2 rfl (AF2 rfl (AF2 rfl (AF2 rfl (AF2 rfl (AF2 rfl (AF2 rfl (AF2 rfl rfl)))))))))))))
theorem lt64 {u : Nat} (h : u / 2 < 32) : u < 64 := by omega
theorem cls {j lo hi : Nat} (d : ∀ u : _root_.Fin 64, lo ≤ u.1 / 2 → u.1 / 2 < hi → rowU u.1 = j) (b : hi ≤ 32) {h : Nat} (h1 : lo ≤ h / 2048) (h2 : h / 2048 < hi) (nx : Nat) : decode h nx = br j h nx := by
  rw [AIf, BAj]
  rw [← u2] at h1 h2
  rw [d ⟨h / 1024, lt64 (Nat.lt_of_lt_of_le h2 b)⟩ h1 h2]
theorem z (h n : Nat) : bits h 0 n = h % 2 ^ n := by
  unfold bits
  rw [Nat.pow_zero, Nat.div_one]
theorem z3 (h : Nat) : bits h 0 3 = h % 8 := z h 3
theorem z4 (h : Nat) : bits h 0 4 = h % 16 := z h 4
theorem z7 (h : Nat) : bits h 0 7 = h % 128 := z h 7
theorem z8 (h : Nat) : bits h 0 8 = h % 256 := z h 8
theorem z9 (h : Nat) : bits h 0 9 = h % 512 := z h 9
theorem z10 (h : Nat) : bits h 0 10 = h % 1024 := z h 10
theorem z11 (h : Nat) : bits h 0 11 = h % 2048 := z h 11
theorem ANm {h nx : Nat} (hc : h / 2048 < 3) : decode h nx = some (.shiftImm (h / 2048) (h % 8) (h / 8 % 8) (h / 64 % 32)) := by
  rw [cls (j := 1) (lo := 0) (hi := 3) (by decide +kernel) (by decide) (Nat.zero_le _) hc]
  show some (Ins.shiftImm (h / 2048 % 4) (bits h 0 3) (h / 8 % 8) (h / 64 % 32)) = _
  rw [z3, Nat.mod_eq_of_lt (Nat.lt_trans hc (by decide))]
theorem A7k (x i : Nat) : (bit x i = true) = (x / 2 ^ i % 2 = 1) := propext beq_iff_eq
theorem AUm {h nx : Nat} (hc : h / 2048 = 3) : decode h nx = some (if h / 1024 % 2 = 1 then .addImm3 (h / 512 % 2 == 1) (h % 8) (h / 8 % 8) (h / 64 % 8) else .addReg (h / 512 % 2 == 1) (h % 8) (h / 8 % 8) (h / 64 % 8)) := by
  rw [cls (j := 2) (lo := 3) (hi := 4) (by decide +kernel) (by decide) (Nat.le_of_eq hc.symm) (hc ▸ by decide)]
  show some (if bit h 10 = true then Ins.addImm3 (h / 512 % 2 == 1) (bits h 0 3) (h / 8 % 8) (h / 64 % 8) else .addReg (h / 512 % 2 == 1) (bits h 0 3) (h / 8 % 8) (h / 64 % 8)) = _
  simp only [z3, A7k]
theorem AWf {h nx : Nat} (hc : 4 ≤ h / 2048) (hd : h / 2048 < 8) : decode h nx = some (.imm8 (h / 2048 % 4) (h / 256 % 8) (h % 256)) := by
  rw [cls (j := 3) (lo := 4) (hi := 8) (by decide +kernel) (by decide) hc hd]
  show some (Ins.imm8 (h / 2048 % 4) (h / 256 % 8) (bits h 0 8)) = _
  rw [z8]
theorem A0s {h nx : Nat} (hc : h / 1024 = 16) : decode h nx = some (.alu (h / 64 % 16) (h % 8) (h / 8 % 8)) := by
  rw [AIf, BAj, hc]
  show some (Ins.alu (h / 64 % 16) (bits h 0 3) (h / 8 % 8)) = _
  rw [z3]
theorem AIy {h nx : Nat} (hc : h / 1024 = 17) : decode h nx = (if h / 256 % 4 = 3 then (if h % 8 ≠ 0 ∨ h / 8 % 16 = 15 then none else some (.branchReg (h / 128 % 2 == 1) (h / 8 % 16)))
    else if h / 256 % 4 = 1 ∧ ((h % 8 + 8 * (h / 128 % 2) < 8 ∧ h / 8 % 16 < 8) ∨ h % 8 + 8 * (h / 128 % 2) = 15 ∨ h / 8 % 16 = 15) then none
    else if h / 256 % 4 = 0 ∧ h % 8 + 8 * (h / 128 % 2) = 15 ∧ h / 8 % 16 = 15 then none
    else some (.high (h / 256 % 4) (h % 8 + 8 * (h / 128 % 2)) (h / 8 % 16))) := by
  rw [AIf, BAj, hc, ← z3 h]
  rfl
theorem A1q {h nx : Nat} (hc : h / 2048 = 9) : decode h nx = some (.literal (h / 256 % 8) (h % 256)) := by
  rw [cls (j := 6) (lo := 9) (hi := 10) (by decide +kernel) (by decide) (Nat.le_of_eq hc.symm) (hc ▸ by decide), ← z8 h]
  rfl
theorem AOu {h nx : Nat} (hc : 10 ≤ h / 2048) (hd : h / 2048 < 12) : decode h nx = some (.memReg (h / 512 % 8) (h % 8) (h / 8 % 8) (h / 64 % 8)) := by
  rw [cls (j := 7) (lo := 10) (hi := 12) (by decide +kernel) (by decide) hc hd, ← z3 h]
  rfl
noncomputable def A0w (k : Nat) : Nat := if k = 0 then 0 else if k = 1 then 4 else if k = 2 then 2 else if k = 3 then 6 else if k = 4 then 1 else 5
theorem AOx {h nx : Nat} (hc : 12 ≤ h / 2048) (hd : h / 2048 < 18) : decode h nx = some (.memImm (A0w (h / 2048 - 12)) (h % 8) (h / 8 % 8) (h / 64 % 32)) := by
  rw [cls (j := 8) (lo := 12) (hi := 18) (by decide +kernel) (by decide) hc hd, ← z3 h]
  have d : ∀ u : _root_.Fin 64, 12 ≤ u.1 / 2 → u.1 / 2 < 18 → (if u.1 / 4 % 16 = 8 then (if (u.1 / 2 % 2 == 1) = true then 5 else 1) else (if (u.1 / 4 % 2 == 1) = true then 2 else 0) + (if (u.1 / 2 % 2 == 1) = true then 4 else 0)) = A0w (u.1 / 2 - 12) := by decide +kernel
  have hu : h / 1024 < 64 := lt64 (by rw [u2]; exact Nat.lt_trans hd (by decide))
  have e := d ⟨h / 1024, hu⟩ (by rw [u2]; exact hc) (by rw [u2]; exact hd)
  simp only [u2, u4] at e
  rw [← e]
  rfl
theorem ARs {h nx : Nat} (hc : 18 ≤ h / 2048) (hd : h / 2048 < 20) : decode h nx = some (.memImm (if h / 2048 = 19 then 4 else 0) (h / 256 % 8) 13 (h % 256)) := by
  rw [cls (j := 9) (lo := 18) (hi := 20) (by decide +kernel) (by decide) hc hd, ← z8 h]
  have d : ∀ t : _root_.Fin 32, 18 ≤ t.1 → t.1 < 20 → (if (t.1 % 2 == 1) = true then 4 else 0) = if t.1 = 19 then 4 else 0 := by decide +kernel
  rw [← d ⟨h / 2048, Nat.lt_trans hd (by decide)⟩ hc hd]
  rfl
theorem AUy {h nx : Nat} (hc : 20 ≤ h / 2048) (hd : h / 2048 < 22) : decode h nx = some (.adr (h / 2048 == 21) (h / 256 % 8) (h % 256)) := by
  rw [cls (j := 10) (lo := 20) (hi := 22) (by decide +kernel) (by decide) hc hd, ← z8 h]
  have d : ∀ t : _root_.Fin 32, 20 ≤ t.1 → t.1 < 22 → (t.1 % 2 == 1) = (t.1 == 21) := by decide +kernel
  rw [← d ⟨h / 2048, Nat.lt_trans hd (by decide)⟩ hc hd]
  rfl
theorem AG9 {h nx : Nat} (hc : 22 ≤ h / 2048) (hd : h / 2048 < 24) : decode h nx =
    (if h / 256 % 16 = 0 then some (.spMove (h / 128 % 2 == 1) (h % 128))
    else if h / 256 % 16 = 2 then some (.extend (h / 64 % 4) (h % 8) (h / 8 % 8))
    else if h / 256 % 16 = 4 ∨ h / 256 % 16 = 5 then (if h % 512 = 0 then none else some (.push (listOf (h % 256) ++ if h / 256 % 16 = 5 then [14] else [])))
    else if h / 256 % 16 = 12 ∨ h / 256 % 16 = 13 then (if h % 512 = 0 then none else some (.pop (listOf (h % 256) ++ if h / 256 % 16 = 13 then [15] else [])))
    else if h / 256 % 16 = 10 then (if h / 64 % 4 = 2 then none else some (.reverse (h / 64 % 4) (h % 8) (h / 8 % 8)))
    else if h / 256 % 16 = 14 then some (.halt_ (h % 256))
    else if h / 256 % 16 = 15 ∧ h % 16 = 0 then some (.nothing false)
    else none) := by
  rw [cls (j := 11) (lo := 22) (hi := 24) (by decide +kernel) (by decide) hc hd, ← z3 h, ← z4 h, ← z7 h, ← z8 h, ← z9 h]
  rfl
theorem AK5 {h nx : Nat} (hc : 24 ≤ h / 2048) (hd : h / 2048 < 26) : decode h nx =
    (if listOf (h % 256) = [] ∨ (h / 2048 = 24 ∧ (listOf (h % 256)).contains (h / 256 % 8) = true ∧ (listOf (h % 256)).head? ≠ some (h / 256 % 8)) then none else some (.many (h / 2048 == 25) (h / 256 % 8) (listOf (h % 256)))) := by
  rw [cls (j := 12) (lo := 24) (hi := 26) (by decide +kernel) (by decide) hc hd, ← z8 h]
  have d : ∀ t : _root_.Fin 32, 24 ≤ t.1 → t.1 < 26 → (t.1 % 2 == 1) = (t.1 == 25) ∧ (t.1 = 24 ↔ (t.1 % 2 == 1) = false) := by decide +kernel
  obtain ⟨e1, e2⟩ := d ⟨h / 2048, Nat.lt_trans hd (by decide)⟩ hc hd
  rw [← e1]
  simp only [e2]
  rfl
theorem AN0 {h nx : Nat} (hc : 26 ≤ h / 2048) (hd : h / 2048 < 28) : decode h nx = (if h / 256 % 16 = 14 then none else if h / 256 % 16 = 15 then some (.call (h % 256)) else some (.cond (h / 256 % 16) (offset 8 (h % 256)))) := by
  rw [cls (j := 13) (lo := 26) (hi := 28) (by decide +kernel) (by decide) hc hd, ← z8 h]
  rfl
theorem BDy {h nx : Nat} (hc : h / 2048 = 28) : decode h nx = some (.branch (offset 11 (h % 2048))) := by
  rw [cls (j := 14) (lo := 28) (hi := 29) (by decide +kernel) (by decide) (Nat.le_of_eq hc.symm) (hc ▸ by decide), ← z11 h]
  rfl
noncomputable def far (h nx : Nat) : Nat := toNat (h / 1024 % 2 == 1) * 2 ^ 23 + (1 - (toNat (nx / 8192 % 2 == 1) + toNat (h / 1024 % 2 == 1)) % 2) * 2 ^ 22 + (1 - (toNat (nx / 2048 % 2 == 1) + toNat (h / 1024 % 2 == 1)) % 2) * 2 ^ 21 + h % 1024 * 2 ^ 11 + nx % 2048
theorem ite_not {c : Prop} [Decidable c] {a x : Option Ins} (h : ¬ c) : (if c then a else x) = x := if_neg h
theorem A2l {h nx : Nat} (hh : h < 65536) (hc : h / 2048 = 29 ∨ h / 2048 = 31) : decode h nx = none := by
  have d : ∀ u : _root_.Fin 64, (u.1 / 2 = 29 ∨ u.1 / 2 = 31) → rowU u.1 = 15 := by decide +kernel
  have hu : h / 1024 < 64 := Nat.div_lt_of_lt_mul hh
  rw [AIf, BAj, d ⟨h / 1024, hu⟩ (by rw [u2]; exact hc)]
  refine (ite_not fun q => ?_).trans (ite_not fun q => ?_)
  · have q1 : h / 2048 % 32 = 30 := q.1
    rcases hc with e | e
    · rw [e] at q1; exact absurd q1 (by decide)
    · rw [e] at q1; exact absurd q1 (by decide)
  · rw [q.1] at hc
    exact absurd hc (by decide)
theorem AJf {h nx : Nat} (hc : h / 2048 = 30) : decode h nx = (if nx / 16384 % 4 = 3 ∧ nx / 4096 % 2 = 1 then some (.link (offset 24 (far h nx)))
    else if h = 0xF3BF ∧ (nx / 16 = 0x8F4 ∨ nx / 16 = 0x8F5 ∨ nx / 16 = 0x8F6) then some (.nothing true) else none) := by
  rw [cls (j := 15) (lo := 30) (hi := 31) (by decide +kernel) (by decide) (Nat.le_of_eq hc.symm) (hc ▸ by decide)]
  unfold far
  rw [← z10 h, ← z11 nx]
  have c0 : bits h 11 5 = 30 := by
    show h / 2048 % 32 = 30
    rw [hc]
  have c : (bits h 11 5 = 30 ∧ bits nx 14 2 = 3 ∧ bit nx 12 = true) = (nx / 16384 % 4 = 3 ∧ nx / 4096 % 2 = 1) := by
    rw [A7k]
    exact propext ⟨fun q => q.2, fun q => ⟨c0, q⟩⟩
  show (if bits h 11 5 = 30 ∧ bits nx 14 2 = 3 ∧ bit nx 12 = true then _ else _) = _
  simp only [c]
  rfl
end Chip
namespace Chip
open Sd12
noncomputable def Wf (i : Ins) : Prop := match i with
  | .shiftImm k rd rm n => k < 3 ∧ rd < 8 ∧ rm < 8 ∧ n < 32
  | .addReg _ rd rn rm => rd < 8 ∧ rn < 8 ∧ rm < 8
  | .addImm3 _ rd rn k => rd < 8 ∧ rn < 8 ∧ k < 8
  | .imm8 op rd k => op < 4 ∧ rd < 8 ∧ k < 256
  | .alu op rd rm => op < 16 ∧ rd < 8 ∧ rm < 8
  | .high op rd rm => op < 3 ∧ rd < 16 ∧ rm < 16
  | .branchReg _ rm => rm < 16
  | .literal rt k => rt < 8 ∧ k < 256
  | .memReg op rt rn rm => op < 8 ∧ rt < 8 ∧ rn < 8 ∧ rm < 8
  | .memImm op rt rn k => op < 8 ∧ rt < 8 ∧ rn < 16 ∧ k < 256
  | .adr _ rd k => rd < 8 ∧ k < 256
  | .spMove _ k => k < 128
  | .extend op rd rm => op < 4 ∧ rd < 8 ∧ rm < 8
  | .reverse op rd rm => op < 4 ∧ op ≠ 2 ∧ rd < 8 ∧ rm < 8
  | .push l => l ≠ [] ∧ l.length ≤ 9 ∧ ∃ l0, (∀ r ∈ l0, r < 8) ∧ (l = l0 ∨ l = l0 ++ [14])
  | .pop l => l ≠ [] ∧ l.length ≤ 9 ∧ ∃ l0, (∀ r ∈ l0, r < 8) ∧ (l = l0 ∨ l = l0 ++ [15])
  | .many _ rn l => rn < 8 ∧ l ≠ [] ∧ l.length ≤ 9 ∧ ∀ r ∈ l, r < 8
  | .cond c off => c < 14 ∧ ∃ z : Int, off = 2 * z
  | .branch off => ∃ z : Int, off = 2 * z
  | .link off => ∃ z : Int, off = 2 * z
  | .call k => k < 256
  | .halt_ k => k < 256
  | .nothing _ => True
theorem md (x : Nat) {k n : Nat} (h0 : 0 < k) (h : k ≤ n) : x % k < n := Nat.lt_of_lt_of_le (Nat.mod_lt x h0) h
theorem l8 (x : Nat) : x % 8 < 8 := md x (by decide) (by decide)
theorem l16 (x : Nat) : x % 16 < 16 := md x (by decide) (by decide)
theorem l32 (x : Nat) : x % 32 < 32 := md x (by decide) (by decide)
theorem l4 (x : Nat) : x % 4 < 4 := md x (by decide) (by decide)
theorem l256 (x : Nat) : x % 256 < 256 := md x (by decide) (by decide)
theorem AP3 {x k : Nat} (h : x < k + 1) (n : ¬ x = k) : x < k := Nat.lt_of_le_of_ne (Nat.le_of_lt_succ h) n
theorem hi16 (h : Nat) : h % 8 + 8 * (h / 128 % 2) < 16 := by omega
theorem AV9 (x : Nat) : ∀ r ∈ listOf x, r < 8 := fun r hr => by
  unfold listOf at hr
  exact List.mem_range.mp (List.mem_filter.mp hr).1
theorem ATj (x : Nat) : (listOf x).length ≤ 8 := by
  unfold listOf
  exact Nat.le_trans (List.length_filter_le _ _) (Nat.le_of_eq List.length_range)
theorem A8r {x : Nat} (h : x % 256 ≠ 0) : listOf (x % 256) ≠ [] := by
  have all : ∀ j : _root_.Fin 256, j.1 ≠ 0 → listOf j.1 ≠ [] := by decide +kernel
  exact all ⟨x % 256, Nat.mod_lt _ (by decide)⟩ h
theorem AP9 (n x : Nat) : ∃ z : Int, offset n x = 2 * z := ⟨_, rfl⟩
theorem A1u {x k : Nat} {c : Prop} [Decidable c] (h : x % 256 ≠ 0 ∨ c) : (listOf (x % 256) ++ if c then [k] else []) ≠ [] ∧ (listOf (x % 256) ++ if c then [k] else []).length ≤ 9 ∧ ∃ l0, (∀ r ∈ l0, r < 8) ∧ ((listOf (x % 256) ++ if c then [k] else []) = l0 ∨ (listOf (x % 256) ++ if c then [k] else []) = l0 ++ [k]) := by
  have hl := ATj (x % 256)
  by_cases hc : c
  · rw [if_pos hc]
    exact ⟨fun z => List.cons_ne_nil k [] (List.append_eq_nil_iff.mp z).2, by rw [List.length_append]; exact Nat.add_le_add_right hl 1, _, AV9 _, .inr rfl⟩
  · rw [if_neg hc, List.append_nil]
    exact ⟨A8r (h.resolve_right hc), Nat.le_succ_of_le hl, _, AV9 _, .inl rfl⟩
theorem h9 {h : Nat} {k : Nat} (hk : k = 5 ∨ k = 13) (c : h / 256 % 16 = k - 1 ∨ h / 256 % 16 = k) (n : ¬ h % 512 = 0) : h % 256 ≠ 0 ∨ h / 256 % 16 = k := by omega
theorem classes {h : Nat} (hh : h < 65536) : h / 2048 < 3 ∨ h / 2048 = 3 ∨ (4 ≤ h / 2048 ∧ h / 2048 < 8) ∨ h / 1024 = 16 ∨ h / 1024 = 17 ∨ h / 2048 = 9 ∨ (10 ≤ h / 2048 ∧ h / 2048 < 12) ∨ (12 ≤ h / 2048 ∧ h / 2048 < 18) ∨ (18 ≤ h / 2048 ∧ h / 2048 < 20) ∨ (20 ≤ h / 2048 ∧ h / 2048 < 22) ∨ (22 ≤ h / 2048 ∧ h / 2048 < 24) ∨ (24 ≤ h / 2048 ∧ h / 2048 < 26) ∨ (26 ≤ h / 2048 ∧ h / 2048 < 28) ∨ h / 2048 = 28 ∨ (h / 2048 = 29 ∨ h / 2048 = 31) ∨ h / 2048 = 30 := by
  have d : ∀ u : _root_.Fin 64, u.1 / 2 < 3 ∨ u.1 / 2 = 3 ∨ (4 ≤ u.1 / 2 ∧ u.1 / 2 < 8) ∨ u.1 = 16 ∨ u.1 = 17 ∨ u.1 / 2 = 9 ∨ (10 ≤ u.1 / 2 ∧ u.1 / 2 < 12) ∨ (12 ≤ u.1 / 2 ∧ u.1 / 2 < 18) ∨ (18 ≤ u.1 / 2 ∧ u.1 / 2 < 20) ∨ (20 ≤ u.1 / 2 ∧ u.1 / 2 < 22) ∨ (22 ≤ u.1 / 2 ∧ u.1 / 2 < 24) ∨ (24 ≤ u.1 / 2 ∧ u.1 / 2 < 26) ∨ (26 ≤ u.1 / 2 ∧ u.1 / 2 < 28) ∨ u.1 / 2 = 28 ∨ (u.1 / 2 = 29 ∨ u.1 / 2 = 31) ∨ u.1 / 2 = 30 := by decide +kernel
  have cs := d ⟨h / 1024, Nat.div_lt_of_lt_mul hh⟩
  simp only [u2] at cs
  exact cs
noncomputable def WO (q : Prop) (o : Option Ins) : Prop := ∀ i, o = some i → Wf i ∧ (long i = true → q)
section
variable {q c : Prop} {o o' : Option Ins} {i i' : Ins} [Decidable c]
theorem APg (e : o = o') (h : WO q o') : WO q o := e ▸ h
theorem wo_n : WO q none := fun _ e => by cases e
theorem wo_q (hq : q) (h : Wf i) : WO q (some i) := fun _ e => by cases e; exact ⟨h, fun _ => hq⟩
theorem wo_s (h : Wf i) (hl : long i = false) : WO q (some i) := fun _ e => by cases e; exact ⟨h, fun z => absurd (hl.symm.trans z) Bool.false_ne_true⟩
theorem AMn (h : c → WO q o) (h' : ¬ c → WO q o') : WO q (if c then o else o') := if hc : c then (if_pos (t := o) (e := o') hc).symm ▸ h hc else (if_neg (t := o) (e := o') hc).symm ▸ h' hc
theorem wo_is (h : WO q (some i)) (h' : WO q (some i')) : WO q (some (if c then i else i')) := if hc : c then (if_pos (t := i) (e := i') hc).symm ▸ h else (if_neg (t := i) (e := i') hc).symm ▸ h'
end
theorem A4m (k : Nat) : A0w k < 8 := by
  unfold A0w
  repeat' split
  all_goals decide
theorem st_lt {c : Prop} [Decidable c] : (if c then 4 else 0) < 8 := by split <;> decide
theorem AQ8 {h nx : Nat} (hh : h < 65536) : WO (h / 2048 = 30) (decode h nx) := by
  rcases classes hh with c | c | c | c | c | c | c | c | c | c | c | c | c | c | c | c
  · exact APg (ANm c) (wo_s ⟨c, l8 _, l8 _, l32 _⟩ rfl)
  · exact APg (AUm c) (wo_is (wo_s ⟨l8 _, l8 _, l8 _⟩ rfl) (wo_s ⟨l8 _, l8 _, l8 _⟩ rfl))
  · exact APg (AWf c.1 c.2) (wo_s ⟨l4 _, l8 _, l256 _⟩ rfl)
  · exact APg (A0s c) (wo_s ⟨l16 _, l8 _, l8 _⟩ rfl)
  · exact APg (AIy c) (AMn (fun _ => AMn (fun _ => wo_n) fun _ => wo_s (l16 _) rfl) fun h1 => AMn (fun _ => wo_n) fun _ => AMn (fun _ => wo_n) fun _ => wo_s ⟨AP3 (l4 _) h1, hi16 h, l16 _⟩ rfl)
  · exact APg (A1q c) (wo_s ⟨l8 _, l256 _⟩ rfl)
  · exact APg (AOu c.1 c.2) (wo_s ⟨md _ (by decide) (by decide), l8 _, l8 _, l8 _⟩ rfl)
  · exact APg (AOx c.1 c.2) (wo_s ⟨A4m _, l8 _, md _ (by decide) (by decide), md _ (by decide) (by decide)⟩ rfl)
  · exact APg (ARs c.1 c.2) (wo_s ⟨st_lt, l8 _, show 13 < 16 by decide, l256 _⟩ rfl)
  · exact APg (AUy c.1 c.2) (wo_s ⟨l8 _, l256 _⟩ rfl)
  · exact APg (AG9 c.1 c.2) (AMn (fun _ => wo_s (md (n := 128) _ (by decide) (by decide)) rfl) fun _ => AMn (fun _ => wo_s ⟨l4 _, l8 _, l8 _⟩ rfl) fun _ => AMn (fun c => AMn (fun _ => wo_n) fun n => wo_s (A1u (h9 (k := 5) (.inl rfl) c n)) rfl) fun _ =>
      AMn (fun c => AMn (fun _ => wo_n) fun n => wo_s (A1u (h9 (k := 13) (.inr rfl) c n)) rfl) fun _ => AMn (fun _ => AMn (fun _ => wo_n) fun h2 => wo_s ⟨l4 _, h2, l8 _, l8 _⟩ rfl) fun _ => AMn (fun _ => wo_s (l256 _) rfl) fun _ => AMn (fun _ => wo_s trivial rfl) fun _ => wo_n)
  · exact APg (AK5 c.1 c.2) (AMn (fun _ => wo_n) fun h1 => wo_s ⟨l8 _, fun z => h1 (.inl z), Nat.le_succ_of_le (ATj _), AV9 _⟩ rfl)
  · exact APg (AN0 c.1 c.2) (AMn (fun _ => wo_n) fun h1 => AMn (fun _ => wo_s (l256 _) rfl) fun h2 => wo_s ⟨AP3 (AP3 (l16 _) h2) h1, AP9 _ _⟩ rfl)
  · exact APg (BDy c) (wo_s (AP9 _ _) rfl)
  · exact APg (A2l hh c) wo_n
  · exact APg (AJf c) (AMn (fun _ => wo_q c (AP9 _ _)) fun _ => AMn (fun _ => wo_q c trivial) fun _ => wo_n)
end Chip
namespace Chip
open PySem L2 LX
theorem pV {X : Cx} {x : Str} {pos : Pos} (i : Nat) {l : List (Str × NameKind)} (h : namesOk X.env.scope l = true) (a : Nat) {l2 : List Str} (h2 : AZi l2 = true) (c : Nat) (e : l[a]? = some (x, .local)) (e2 : l2[c]? = some x) (hN : X.N[i]? = some x) : PE X (.Name x pos) (tVar i) := pvx i (.inl (lk h e)) (nmk h2 e2) hN
theorem lj {sc : Scope} {l : List (Str × NameKind)} (h : namesOk sc l = true) (i : Nat) {x : Str} {k : NameKind} (e : l[i]? = some (x, k)) : sc.names.lookup x = some k := lk h e
theorem nj {l : List Str} (h : AZi l = true) (i : Nat) {x : Str} (e : l[i]? = some x) : Nm x := nmk h e
theorem hmo {a b : Nat} {A : Around} (h : Room a A) (e : b ≤ a := by decide) : Room b A := h.mono e
theorem fsc {N P : List Str} {sc : Scope} (a : sc.kind = .function := by rfl) (b : sc.isCoroutine = false := by rfl) (c : sc.isGenerator = false := by rfl) (d : N.Nodup := by decide +kernel) (e : N.take P.length = P := by rfl) (f : ∀ x ∈ P, sc.names.lookup x = some .local ∨ sc.names.lookup x = some .cell := by decide +kernel) (g : ∀ y ∈ sc.names, y.2 ≠ .free := by decide +kernel) : AAh N P sc := ⟨a, b, c, d, e, f, g⟩
noncomputable abbrev gI : NameKind := .globalImplicit
theorem nn_sorted : ("sorted" : Str) ≠ "__name__" := by decide +kernel
theorem A4v : ("tuple" : Str) ≠ "__name__" := by decide +kernel
theorem AR4 : ("len" : Str) ≠ "__name__" := by decide +kernel
theorem nms5 : AZi ["Machine", "do_steps", "done", "state_of", "changes_of", "regs", "BEYOND_MEMORY", "known", "instruction_now", "do_instruction", "instruction_at"] = true := by decide +kernel
theorem nms4 : AZi ["is_none", "NO_PLACE", "put_bytes", "store", "word_at", "load_word", "load_half", "load_byte", "r", "is_none_for_list", "put_list", "behind", "go_to_marked", "take_list", "target", "link", "holds", "AT_BKPT", "AT_SVC", "NO_INSTRUCTION", "instruction", "DOERS", "MOST_STEPS", "can_be"] = true := by decide +kernel
theorem nms3 : AZi ["BY_HIGHEST_BITS", "wide", "a", "b", "carry", "total", "result", "total_of", "by", "shifted", "signed", "rest", "turned", "is_met", "pair", "result_of", "shifted_left", "shifted_right", "shifted_with_sign", "turned_right", "difference_of", "set_register", "place_by_program", "bytes_turned_in_halves"] = true := by decide +kernel
theorem nms2 : AZi ["BY_NUMBER", "way", "EXTENSIONS", "TURNS", "registers", "ninth", "LR", "listed", "WITH_LIST", "ALONE", "ODDS", "WITH_BASE_AND_LIST", "condition", "with_sign", "WITH_TARGET", "first", "second", "distance", "sign", "high", "low", "number", "WIDE", "is_first_half"] = true := by decide +kernel
theorem nms1 : AZi ["size", "half_at", "at", "sign_bit", "NONE", "half", "SHIFTS", "i", "name", "m", "OF_TWO", "OF_THREE", "n", "x", "WITH_BYTE", "with_high_registers", "TWO_LOW", "OF_TWO_AND_ZERO", "kind", "branch_to_register", "TWO_HIGH", "OF_ONE", "WITH_PLACE", "BY_REGISTER"] = true := by decide +kernel
theorem nms0 : AZi ["len", "ord", "tuple", "sorted", "range", "zip", "self", "state", "STEPS_DONE", "PC", "places", "data", "memory_of", "SIZE", "memory", "byte", "place", "machine", "flags", "changes", "d", "value", "SP", "WORD"] = true := by decide +kernel
theorem A6i : AAh ["self", "state", "places", "data"] ["self", "state", "places", "data"] (AAb ASd) := fsc
theorem ADm : namesOk (AAb ASd) [("self", .local), ("state", .local), ("STEPS_DONE", gI), ("PC", gI), ("memory_of", gI), ("places", .local), ("data", .local)] = true := by decide +kernel
theorem AGw : AAh ["places", "data", "memory", "place", "byte"] ["places", "data"] (AAb AJe) := fsc
theorem ACc : namesOk (AAb AJe) [("SIZE", gI), ("memory", .local), ("byte", .local), ("place", .local), ("zip", gI), ("places", .local), ("data", .local)] = true := by decide +kernel
theorem AMe : AAh ["machine", "flags"] ["machine"] (AAb AKl) := fsc
theorem ADo : namesOk (AAb AKl) [("machine", .local), ("flags", .local)] = true := by decide +kernel
theorem AFz : AAh ["machine", "changes", "place", "byte"] ["machine"] (AAb AHz) := fsc
theorem ABd : namesOk (AAb AHz) [("changes", .local), ("place", .local), ("sorted", gI), ("machine", .local), ("byte", .local)] = true := by decide +kernel
theorem AL1 : AAh ["machine", "d", "value"] ["machine", "d", "value"] (AAb AGy) := fsc
theorem ABa : namesOk (AAb AGy) [("d", .local), ("PC", gI), ("machine", .local), ("value", .local), ("SP", gI), ("WORD", gI)] = true := by decide +kernel
theorem AT0 : AAh ["place", "size"] ["place", "size"] (AAb AMy) := fsc
theorem AHa : namesOk (AAb AMy) [("place", .local), ("size", .local), ("SIZE", gI)] = true := by decide +kernel
theorem AV4 : AAh ["memory", "place"] ["memory", "place"] (AAb AMz) := fsc
theorem AIq : namesOk (AAb AMz) [("memory", .local), ("place", .local)] = true := by decide +kernel
theorem AUs : AAh ["memory", "place"] ["memory", "place"] (AAb ANh) := fsc
theorem AGf : namesOk (AAb ANh) [("half_at", gI), ("memory", .local), ("place", .local)] = true := by decide +kernel
theorem AH3 : AAh ["machine", "place", "size", "value", "at"] ["machine", "place", "size", "value"] (AAb AJg) := fsc
theorem ABj : namesOk (AAb AJg) [("at", .local), ("range", gI), ("place", .local), ("size", .local), ("machine", .local), ("value", .local)] = true := by decide +kernel
theorem AQy : AAh ["value", "sign_bit"] ["value", "sign_bit"] (AAb AJb) := fsc
theorem AH5 : namesOk (AAb AJb) [("value", .local), ("sign_bit", .local)] = true := by decide +kernel
theorem AJy : AAh ["half"] ["half"] (AAb AFa) := fsc
theorem AJ3 : namesOk (AAb AFa) [("NONE", gI)] = true := by decide +kernel
theorem ACm : AAh ["half", "d", "m", "i", "name"] ["half"] (AAb AEt) := fsc
theorem AAk : namesOk (AAb AEt) [("half", .local), ("d", .local), ("m", .local), ("i", .local), ("SHIFTS", gI), ("name", .local), ("OF_TWO", gI), ("OF_THREE", gI)] = true := by decide +kernel
theorem ADi : AAh ["half", "name", "d", "n", "x"] ["half"] (AAb AGz) := fsc
theorem AAp : namesOk (AAb AGz) [("half", .local), ("name", .local), ("d", .local), ("n", .local), ("x", .local), ("OF_THREE", gI)] = true := by decide +kernel
theorem ALl : AAh ["half", "d"] ["half"] (AAb AI8) := fsc
theorem ADb : namesOk (AAb AI8) [("half", .local), ("d", .local), ("WITH_BYTE", gI), ("OF_TWO", gI)] = true := by decide +kernel
theorem AEq : AAh ["half", "d", "name"] ["half"] (AAb AE4) := fsc
theorem AAq : namesOk (AAb AE4) [("half", .local), ("with_high_registers", gI), ("d", .local), ("TWO_LOW", gI), ("name", .local), ("OF_TWO_AND_ZERO", gI), ("OF_TWO", gI)] = true := by decide +kernel
theorem ABr : AAh ["half", "kind", "d", "m", "name"] ["half"] (AAb ADe) := fsc
theorem AAd : namesOk (AAb ADe) [("half", .local), ("kind", .local), ("branch_to_register", gI), ("d", .local), ("m", .local), ("TWO_HIGH", gI), ("name", .local), ("PC", gI), ("NONE", gI), ("OF_TWO", gI)] = true := by decide +kernel
theorem AEv : AAh ["half", "m"] ["half"] (AAb ADl) := fsc
theorem AAx : namesOk (AAb ADl) [("half", .local), ("m", .local), ("PC", gI), ("NONE", gI), ("OF_ONE", gI)] = true := by decide +kernel
theorem AHy : AAh ["half"] ["half"] (AAb ADw) := fsc
theorem ACr : namesOk (AAb ADw) [("half", .local), ("PC", gI), ("WITH_PLACE", gI)] = true := by decide +kernel
theorem AIb : AAh ["half"] ["half"] (AAb AEg) := fsc
theorem ABs : namesOk (AAb AEg) [("BY_REGISTER", gI), ("half", .local), ("WITH_PLACE", gI)] = true := by decide +kernel
theorem AG2 : AAh ["half", "way"] ["half"] (AAb AFq) := fsc
theorem ABh : namesOk (AAb AFq) [("BY_NUMBER", gI), ("half", .local), ("way", .local), ("WITH_PLACE", gI)] = true := by decide +kernel
theorem AHe : AAh ["half", "name"] ["half"] (AAb AF6) := fsc
theorem ACa : namesOk (AAb AF6) [("half", .local), ("name", .local), ("SP", gI), ("WITH_PLACE", gI)] = true := by decide +kernel
theorem AIa : AAh ["half"] ["half"] (AAb AEb) := fsc
theorem ACw : namesOk (AAb AEb) [("half", .local), ("PC", gI), ("OF_THREE", gI)] = true := by decide +kernel
theorem AJx : AAh ["half"] ["half"] (AAb AFs) := fsc
theorem ADj : namesOk (AAb AFs) [("half", .local), ("SP", gI), ("OF_THREE", gI)] = true := by decide +kernel
theorem AG7 : AAh ["half", "name"] ["half"] (AAb AF7) := fsc
theorem ACd : namesOk (AAb AF7) [("half", .local), ("name", .local), ("SP", gI), ("OF_TWO", gI)] = true := by decide +kernel
theorem APu : AAh ["half"] ["half"] (AAb AI4) := fsc
theorem AFm : namesOk (AAb AI4) [("EXTENSIONS", gI), ("half", .local), ("OF_TWO", gI)] = true := by decide +kernel
theorem AHx : AAh ["half", "name"] ["half"] (AAb AGv) := fsc
theorem ABo : namesOk (AAb AGv) [("TURNS", gI), ("half", .local), ("name", .local), ("NONE", gI), ("OF_TWO", gI)] = true := by decide +kernel
theorem AMp : AAh ["half", "ninth", "registers", "r"] ["half", "ninth"] (AAb ALk) := fsc
theorem AU4 : A7p ["half", "ninth", "registers", "r"] (AAb ALk) (A8s (valOf ((ACy ALk).getD 0 (.Pass ⟨0, 0, 0, 0⟩)))) [("r", 3)] := A2n (by decide +kernel)
theorem AHl : namesOk (AAb ALk) [("range", gI), ("half", .cell), ("registers", .local), ("ninth", .local), ("tuple", gI)] = true := by decide +kernel
theorem AQd : AAh ["half"] ["half"] (AAb AJd) := fsc
theorem ADk : namesOk (AAb AJd) [("half", .local), ("NONE", gI), ("SP", gI), ("listed", gI), ("LR", gI), ("WITH_LIST", gI)] = true := by decide +kernel
theorem ASj : AAh ["half"] ["half"] (AAb AKq) := fsc
theorem AEd : namesOk (AAb AKq) [("half", .local), ("NONE", gI), ("SP", gI), ("listed", gI), ("PC", gI), ("WITH_LIST", gI)] = true := by decide +kernel
theorem A63 : AAh ["half"] ["half"] (AAb A5a) := fsc
theorem A1y : namesOk (AAb A5a) [("half", .local), ("OF_ONE", gI)] = true := by decide +kernel
theorem A8n : AAh ["half"] ["half"] (AAb A3j) := fsc
theorem AVl : namesOk (AAb A3j) [("half", .local), ("NONE", gI), ("ALONE", gI)] = true := by decide +kernel
theorem A7u : AAh ["half"] ["half"] (AAb A3w) := fsc
theorem AUa : namesOk (AAb A3w) [("ODDS", gI), ("half", .local)] = true := by decide +kernel
theorem AG6 : AAh ["half", "n", "registers"] ["half"] (AAb AH7) := fsc
theorem ABc : namesOk (AAb AH7) [("half", .local), ("n", .local), ("listed", gI), ("registers", .local), ("len", gI), ("NONE", gI), ("WITH_BASE_AND_LIST", gI)] = true := by decide +kernel
theorem AQt : AAh ["half"] ["half"] (AAb AJc) := fsc
theorem AD7 : namesOk (AAb AJc) [("half", .local), ("NONE", gI), ("listed", gI), ("WITH_BASE_AND_LIST", gI)] = true := by decide +kernel
theorem AKn : AAh ["half", "condition"] ["half"] (AAb AJa) := fsc
theorem AB4 : namesOk (AAb AJa) [("half", .local), ("condition", .local), ("NONE", gI), ("OF_ONE", gI), ("with_sign", gI), ("WITH_TARGET", gI)] = true := by decide +kernel
theorem AXo : AAh ["half"] ["half"] (AAb AQm) := fsc
theorem AMv : namesOk (AAb AQm) [("with_sign", gI), ("half", .local), ("WITH_TARGET", gI)] = true := by decide +kernel
theorem A58 : AAh ["first", "second"] ["first", "second"] (AAb A2s) := fsc
theorem AIi : namesOk (AAb A2s) [("first", .local), ("second", .local), ("ALONE", gI), ("distance", gI), ("WITH_TARGET", gI), ("NONE", gI)] = true := by decide +kernel
theorem AGh : AAh ["first", "second", "sign", "high", "low", "number"] ["first", "second"] (AAb AK4) := fsc
theorem ABl : namesOk (AAb AK4) [("first", .local), ("sign", .local), ("second", .local), ("high", .local), ("low", .local), ("number", .local), ("with_sign", gI)] = true := by decide +kernel
theorem AKo : AAh ["half"] ["half"] (AAb AGb) := fsc
theorem AHk : namesOk (AAb AGb) [("half", .local), ("WIDE", gI)] = true := by decide +kernel
theorem AG1 : AAh ["memory", "place", "half"] ["memory", "place"] (AAb AEz) := fsc
theorem AAn : namesOk (AAb AEz) [("half_at", gI), ("memory", .local), ("place", .local), ("half", .local), ("is_first_half", gI), ("BY_HIGHEST_BITS", gI), ("SIZE", gI), ("NONE", gI), ("wide", gI)] = true := by decide +kernel
theorem APl : AAh ["machine", "value"] ["machine", "value"] (AAb AJj) := fsc
theorem AFr : namesOk (AAb AJj) [("machine", .local), ("value", .local)] = true := by decide +kernel
theorem AI9 : AAh ["machine", "a", "b", "carry", "total", "result"] ["machine", "a", "b", "carry"] (AAb AK2) := fsc
theorem ABe : namesOk (AAb AK2) [("a", .local), ("b", .local), ("carry", .local), ("total", .local), ("WORD", gI), ("result", .local), ("machine", .local)] = true := by decide +kernel
theorem ALi : AAh ["machine", "a", "b"] ["machine", "a", "b"] (AAb AGa) := fsc
theorem AC6 : namesOk (AAb AGa) [("total_of", gI), ("machine", .local), ("a", .local), ("b", .local), ("WORD", gI)] = true := by decide +kernel
theorem AHw : AAh ["machine", "value", "by", "shifted"] ["machine", "value", "by"] (AAb AGq) := fsc
theorem ABp : namesOk (AAb AGq) [("by", .local), ("value", .local), ("shifted", .local), ("machine", .local), ("WORD", gI)] = true := by decide +kernel
theorem AKv : AAh ["machine", "value", "by"] ["machine", "value", "by"] (AAb AF5) := fsc
theorem AB1 : namesOk (AAb AF5) [("by", .local), ("value", .local), ("machine", .local)] = true := by decide +kernel
theorem AFh : AAh ["machine", "value", "by", "signed"] ["machine", "value", "by"] (AAb ADu) := fsc
theorem AAr : namesOk (AAb ADu) [("by", .local), ("value", .local), ("with_sign", gI), ("signed", .local), ("machine", .local), ("WORD", gI)] = true := by decide +kernel
theorem AF8 : AAh ["machine", "value", "by", "rest", "turned"] ["machine", "value", "by"] (AAb AGx) := fsc
theorem AA9 : namesOk (AAb AGx) [("by", .local), ("value", .local), ("rest", .local), ("WORD", gI), ("turned", .local), ("machine", .local)] = true := by decide +kernel
theorem A3c : AAh ["machine", "condition"] ["machine", "condition"] (AAb AW5) := fsc
theorem AM0 : namesOk (AAb AW5) [("is_met", gI), ("machine", .local), ("condition", .local)] = true := by decide +kernel
theorem AYa : AAh ["machine", "pair"] ["machine", "pair"] (AAb APj) := fsc
theorem ACj : namesOk (AAb APj) [("pair", .local), ("machine", .local)] = true := by decide +kernel
theorem AWt : AAh ["machine", "d", "n", "x"] ["machine", "d", "n", "x"] (AAb AM8) := fsc
theorem AHi : namesOk (AAb AM8) [("machine", .local), ("result_of", gI), ("x", .local), ("d", .local)] = true := by decide +kernel
theorem AUc : AAh ["machine", "d", "n", "x"] ["machine", "d", "n", "x"] (AAb AN2) := fsc
theorem AGg : namesOk (AAb AN2) [("machine", .local), ("result_of", gI), ("x", .local), ("WORD", gI), ("d", .local)] = true := by decide +kernel
theorem AWm : AAh ["machine", "d", "n", "x"] ["machine", "d", "n", "x"] (AAb ANs) := fsc
theorem AFj : namesOk (AAb ANs) [("machine", .local), ("result_of", gI), ("n", .local), ("x", .local), ("d", .local)] = true := by decide +kernel
theorem AYl : AAh ["machine", "d", "n", "x"] ["machine", "d", "n", "x"] (AAb APq) := fsc
theorem AIm : namesOk (AAb APq) [("result_of", gI), ("machine", .local), ("n", .local), ("x", .local)] = true := by decide +kernel
theorem AVx : AAh ["machine", "d", "n", "x"] ["machine", "d", "n", "x"] (AAb ANu) := fsc
theorem AEm : namesOk (AAb ANu) [("machine", .local), ("result_of", gI), ("n", .local), ("x", .local), ("WORD", gI), ("d", .local)] = true := by decide +kernel
theorem AWs : AAh ["machine", "d", "n", "x"] ["machine", "d", "n", "x"] (AAb AN3) := fsc
theorem AFn : namesOk (AAb AN3) [("machine", .local), ("result_of", gI), ("n", .local), ("x", .local), ("d", .local)] = true := by decide +kernel
theorem AWn : AAh ["machine", "d", "n", "x"] ["machine", "d", "n", "x"] (AAb AMu) := fsc
theorem AFu : namesOk (AAb AMu) [("machine", .local), ("result_of", gI), ("n", .local), ("x", .local), ("d", .local)] = true := by decide +kernel
theorem AW1 : AAh ["machine", "d", "n", "x"] ["machine", "d", "n", "x"] (AAb ANl) := fsc
theorem AEk : namesOk (AAb ANl) [("machine", .local), ("result_of", gI), ("n", .local), ("x", .local), ("WORD", gI), ("d", .local)] = true := by decide +kernel
theorem ATp : AAh ["machine", "d", "n", "x"] ["machine", "d", "n", "x"] (AAb AM5) := fsc
theorem ADz : namesOk (AAb AM5) [("machine", .local), ("result_of", gI), ("shifted_left", gI), ("n", .local), ("x", .local), ("d", .local)] = true := by decide +kernel
theorem AT2 : AAh ["machine", "d", "n", "x"] ["machine", "d", "n", "x"] (AAb ANd) := fsc
theorem ADr : namesOk (AAb ANd) [("machine", .local), ("result_of", gI), ("shifted_right", gI), ("n", .local), ("x", .local), ("d", .local)] = true := by decide +kernel
theorem AWz : AAh ["machine", "d", "n", "x"] ["machine", "d", "n", "x"] (AAb ANr) := fsc
theorem ADq : namesOk (AAb ANr) [("machine", .local), ("result_of", gI), ("shifted_with_sign", gI), ("n", .local), ("x", .local), ("d", .local)] = true := by decide +kernel
theorem AT6 : AAh ["machine", "d", "n", "x"] ["machine", "d", "n", "x"] (AAb AOb) := fsc
theorem ADt : namesOk (AAb AOb) [("machine", .local), ("result_of", gI), ("turned_right", gI), ("n", .local), ("x", .local), ("d", .local)] = true := by decide +kernel
theorem ATq : AAh ["machine", "d", "n", "x"] ["machine", "d", "n", "x"] (AAb ANx) := fsc
theorem AFc : namesOk (AAb ANx) [("machine", .local), ("total_of", gI), ("n", .local), ("x", .local), ("d", .local)] = true := by decide +kernel
theorem AWr : AAh ["machine", "d", "n", "x"] ["machine", "d", "n", "x"] (AAb ANa) := fsc
theorem AEo : namesOk (AAb ANa) [("machine", .local), ("total_of", gI), ("n", .local), ("x", .local), ("d", .local)] = true := by decide +kernel
theorem AZa : AAh ["machine", "d", "n", "x"] ["machine", "d", "n", "x"] (AAb AQf) := fsc
theorem AIj : namesOk (AAb AQf) [("total_of", gI), ("machine", .local), ("n", .local), ("x", .local)] = true := by decide +kernel
theorem AV3 : AAh ["machine", "d", "n", "x"] ["machine", "d", "n", "x"] (AAb AM7) := fsc
theorem AFb : namesOk (AAb AM7) [("machine", .local), ("difference_of", gI), ("n", .local), ("x", .local), ("d", .local)] = true := by decide +kernel
theorem AVr : AAh ["machine", "d", "n", "x"] ["machine", "d", "n", "x"] (AAb AMw) := fsc
theorem ADx : namesOk (AAb AMw) [("machine", .local), ("total_of", gI), ("n", .local), ("x", .local), ("WORD", gI), ("d", .local)] = true := by decide +kernel
theorem AVu : AAh ["machine", "d", "n", "x"] ["machine", "d", "n", "x"] (AAb AM1) := fsc
theorem AHh : namesOk (AAb AM1) [("machine", .local), ("difference_of", gI), ("x", .local), ("d", .local)] = true := by decide +kernel
theorem AYk : AAh ["machine", "d", "n", "x"] ["machine", "d", "n", "x"] (AAb AQs) := fsc
theorem AIk : namesOk (AAb AQs) [("difference_of", gI), ("machine", .local), ("n", .local), ("x", .local)] = true := by decide +kernel
theorem AYp : AAh ["machine", "d", "n", "x"] ["machine", "d", "n", "x"] (AAb AQ0) := fsc
theorem AHp : namesOk (AAb AQ0) [("set_register", gI), ("machine", .local), ("d", .local), ("n", .local), ("x", .local)] = true := by decide +kernel
theorem AX5 : AAh ["machine", "d", "n", "x"] ["machine", "d", "n", "x"] (AAb APo) := fsc
theorem AHm : namesOk (AAb APo) [("set_register", gI), ("machine", .local), ("d", .local), ("n", .local), ("x", .local)] = true := by decide +kernel
theorem AP7 : AAh ["machine", "d", "n", "x"] ["machine", "d", "n", "x"] (AAb AI2) := fsc
theorem AFg : namesOk (AAb AI2) [("machine", .local), ("place_by_program", gI), ("x", .local), ("d", .local)] = true := by decide +kernel
theorem AYv : AAh ["machine", "d", "n", "x"] ["machine", "d", "n", "x"] (AAb AQe) := fsc
theorem AKa : namesOk (AAb AQe) [("set_register", gI), ("machine", .local), ("d", .local), ("x", .local)] = true := by decide +kernel
theorem AUg : AAh ["machine", "d", "n", "x"] ["machine", "d", "n", "x"] (AAb AN6) := fsc
theorem AHd : namesOk (AAb AN6) [("machine", .local), ("with_sign", gI), ("x", .local), ("WORD", gI), ("d", .local)] = true := by decide +kernel
theorem AUw : AAh ["machine", "d", "n", "x"] ["machine", "d", "n", "x"] (AAb AMx) := fsc
theorem AHg : namesOk (AAb AMx) [("machine", .local), ("with_sign", gI), ("x", .local), ("WORD", gI), ("d", .local)] = true := by decide +kernel
theorem ATx : AAh ["machine", "d", "n", "x"] ["machine", "d", "n", "x"] (AAb AN5) := fsc
theorem AKu : namesOk (AAb AN5) [("machine", .local), ("x", .local), ("d", .local)] = true := by decide +kernel
theorem AUi : AAh ["machine", "d", "n", "x"] ["machine", "d", "n", "x"] (AAb AMo) := fsc
theorem AKt : namesOk (AAb AMo) [("machine", .local), ("x", .local), ("d", .local)] = true := by decide +kernel
theorem AGl : AAh ["value"] ["value"] (AAb ACt) := fsc
theorem ADn : namesOk (AAb ACt) [("value", .local)] = true := by decide +kernel
theorem ARl : AAh ["machine", "d", "n", "x", "turned"] ["machine", "d", "n", "x"] (AAb AQp) := fsc
theorem AGp : namesOk (AAb AQp) [("bytes_turned_in_halves", gI), ("x", .local), ("turned", .local), ("machine", .local), ("d", .local)] = true := by decide +kernel
theorem AR8 : AAh ["machine", "d", "n", "x"] ["machine", "d", "n", "x"] (AAb ALc) := fsc
theorem AHr : namesOk (AAb ALc) [("machine", .local), ("bytes_turned_in_halves", gI), ("x", .local), ("d", .local)] = true := by decide +kernel
theorem ASs : AAh ["machine", "d", "n", "x"] ["machine", "d", "n", "x"] (AAb ALb) := fsc
theorem AEy : namesOk (AAb ALb) [("machine", .local), ("with_sign", gI), ("bytes_turned_in_halves", gI), ("x", .local), ("WORD", gI), ("d", .local)] = true := by decide +kernel
theorem AIs : AAh ["machine", "x"] ["machine", "x"] (AAb AD6) := fsc
theorem AD1 : namesOk (AAb AD6) [("machine", .local), ("PC", gI), ("x", .local)] = true := by decide +kernel
theorem A4a : AAh ["machine", "d", "place", "size"] ["machine", "d", "place", "size"] (AAb ATs) := fsc
theorem AFo : namesOk (AAb ATs) [("is_none", gI), ("place", .local), ("size", .local), ("machine", .local), ("NO_PLACE", gI), ("put_bytes", gI), ("d", .local)] = true := by decide +kernel
theorem AY9 : AAh ["machine", "d", "n", "x"] ["machine", "d", "n", "x"] (AAb APv) := fsc
theorem AGt : namesOk (AAb APv) [("store", gI), ("machine", .local), ("d", .local), ("n", .local), ("x", .local), ("WORD", gI)] = true := by decide +kernel
theorem AVk : AAh ["machine", "d", "n", "x"] ["machine", "d", "n", "x"] (AAb ANb) := fsc
theorem AFd : namesOk (AAb ANb) [("store", gI), ("machine", .local), ("d", .local), ("n", .local), ("x", .local), ("WORD", gI)] = true := by decide +kernel
theorem AV7 : AAh ["machine", "d", "n", "x"] ["machine", "d", "n", "x"] (AAb ANt) := fsc
theorem AFk : namesOk (AAb ANt) [("store", gI), ("machine", .local), ("d", .local), ("n", .local), ("x", .local), ("WORD", gI)] = true := by decide +kernel
theorem AP1 : AAh ["machine", "d", "place"] ["machine", "d", "place"] (AAb AJk) := fsc
theorem ACv : namesOk (AAb AJk) [("is_none", gI), ("place", .local), ("machine", .local), ("NO_PLACE", gI), ("word_at", gI), ("d", .local)] = true := by decide +kernel
theorem AQu : AAh ["machine", "d", "place", "sign_bit"] ["machine", "d", "place", "sign_bit"] (AAb AIz) := fsc
theorem ABu : namesOk (AAb AIz) [("is_none", gI), ("place", .local), ("machine", .local), ("NO_PLACE", gI), ("with_sign", gI), ("half_at", gI), ("sign_bit", .local), ("WORD", gI), ("d", .local)] = true := by decide +kernel
theorem APy : AAh ["machine", "d", "place", "sign_bit"] ["machine", "d", "place", "sign_bit"] (AAb AI3) := fsc
theorem ABz : namesOk (AAb AI3) [("is_none", gI), ("place", .local), ("machine", .local), ("NO_PLACE", gI), ("with_sign", gI), ("sign_bit", .local), ("WORD", gI), ("d", .local)] = true := by decide +kernel
theorem AXz : AAh ["machine", "d", "n", "x"] ["machine", "d", "n", "x"] (AAb AQa) := fsc
theorem AGm : namesOk (AAb AQa) [("load_word", gI), ("machine", .local), ("d", .local), ("n", .local), ("x", .local), ("WORD", gI)] = true := by decide +kernel
theorem AP5 : AAh ["machine", "d", "n", "x"] ["machine", "d", "n", "x"] (AAb AJi) := fsc
theorem AEa : namesOk (AAb AJi) [("load_word", gI), ("machine", .local), ("d", .local), ("place_by_program", gI), ("x", .local)] = true := by decide +kernel
theorem AVp : AAh ["machine", "d", "n", "x"] ["machine", "d", "n", "x"] (AAb ANw) := fsc
theorem AFi : namesOk (AAb ANw) [("load_half", gI), ("machine", .local), ("d", .local), ("n", .local), ("x", .local), ("WORD", gI)] = true := by decide +kernel
theorem ASq : AAh ["machine", "d", "n", "x"] ["machine", "d", "n", "x"] (AAb ALe) := fsc
theorem AD9 : namesOk (AAb ALe) [("load_half", gI), ("machine", .local), ("d", .local), ("n", .local), ("x", .local), ("WORD", gI)] = true := by decide +kernel
theorem ATk : AAh ["machine", "d", "n", "x"] ["machine", "d", "n", "x"] (AAb ANy) := fsc
theorem AFv : namesOk (AAb ANy) [("load_byte", gI), ("machine", .local), ("d", .local), ("n", .local), ("x", .local), ("WORD", gI)] = true := by decide +kernel
theorem AR7 : AAh ["machine", "d", "n", "x"] ["machine", "d", "n", "x"] (AAb ALj) := fsc
theorem AEf : namesOk (AAb ALj) [("load_byte", gI), ("machine", .local), ("d", .local), ("n", .local), ("x", .local), ("WORD", gI)] = true := by decide +kernel
theorem AIh : AAh ["place", "registers"] ["place", "registers"] (AAb AEe) := fsc
theorem ACh : namesOk (AAb AEe) [("place", .local), ("len", gI), ("registers", .local), ("SIZE", gI)] = true := by decide +kernel
theorem AJm : AAh ["machine", "place", "registers", "r"] ["machine", "place", "registers"] (AAb ALp) := fsc
theorem ADc : namesOk (AAb ALp) [("r", .local), ("registers", .local), ("put_bytes", gI), ("machine", .local), ("place", .local)] = true := by decide +kernel
theorem AH8 : AAh ["machine", "place", "registers", "r"] ["machine", "place", "registers"] (AAb AJp) := fsc
theorem ACq : namesOk (AAb AJp) [("r", .local), ("registers", .local), ("machine", .local), ("word_at", gI), ("place", .local)] = true := by decide +kernel
theorem AO6 : AAh ["machine", "d", "n", "registers", "place"] ["machine", "d", "n", "registers"] (AAb ANe) := fsc
theorem ABn : namesOk (AAb ANe) [("machine", .local), ("SP", gI), ("len", gI), ("registers", .local), ("WORD", gI), ("place", .local), ("is_none_for_list", gI), ("NO_PLACE", gI), ("put_list", gI)] = true := by decide +kernel
theorem AOa : AAh ["machine", "d", "n", "registers", "place", "behind"] ["machine", "d", "n", "registers"] (AAb APk) := fsc
theorem ABb : namesOk (AAb APk) [("machine", .local), ("SP", gI), ("place", .local), ("len", gI), ("registers", .local), ("behind", .local), ("is_none_for_list", gI), ("NO_PLACE", gI), ("PC", gI), ("go_to_marked", gI), ("word_at", gI), ("take_list", gI)] = true := by decide +kernel
theorem ARq : AAh ["machine", "d", "n", "registers", "place"] ["machine", "d", "n", "registers"] (AAb APi) := fsc
theorem ACg : namesOk (AAb APi) [("machine", .local), ("n", .local), ("place", .local), ("is_none_for_list", gI), ("registers", .local), ("NO_PLACE", gI), ("put_list", gI), ("len", gI)] = true := by decide +kernel
theorem ARh : AAh ["machine", "d", "n", "registers", "place"] ["machine", "d", "n", "registers"] (AAb AQ4) := fsc
theorem ABw : namesOk (AAb AQ4) [("machine", .local), ("n", .local), ("place", .local), ("is_none_for_list", gI), ("registers", .local), ("NO_PLACE", gI), ("take_list", gI), ("len", gI)] = true := by decide +kernel
theorem AL2 : AAh ["machine", "target"] ["machine", "target"] (AAb AGs) := fsc
theorem ADh : namesOk (AAb AGs) [("target", .local), ("machine", .local), ("NO_PLACE", gI)] = true := by decide +kernel
theorem A4i : AAh ["machine", "d", "n", "x"] ["machine", "d", "n", "x"] (AAb AWl) := fsc
theorem AQc : namesOk (AAb AWl) [("go_to_marked", gI), ("machine", .local), ("x", .local)] = true := by decide +kernel
theorem ARf : AAh ["machine", "d", "n", "x", "link"] ["machine", "d", "n", "x"] (AAb AP0) := fsc
theorem AEh : namesOk (AAb AP0) [("machine", .local), ("link", .local), ("go_to_marked", gI), ("x", .local), ("NO_PLACE", gI), ("LR", gI)] = true := by decide +kernel
theorem A8l : AAh ["machine", "d", "n", "x"] ["machine", "d", "n", "x"] (AAb A45) := fsc
theorem AO8 : namesOk (AAb A45) [("machine", .local), ("PC", gI), ("x", .local), ("WORD", gI)] = true := by decide +kernel
theorem AT1 : AAh ["machine", "condition", "n", "x"] ["machine", "condition", "n", "x"] (AAb ANp) := fsc
theorem AEp : namesOk (AAb ANp) [("holds", gI), ("machine", .local), ("condition", .local), ("PC", gI), ("x", .local), ("WORD", gI)] = true := by decide +kernel
theorem A2o : AAh ["machine", "d", "n", "x"] ["machine", "d", "n", "x"] (AAb AUo) := fsc
theorem AGr : namesOk (AAb AUo) [("machine", .local), ("PC", gI), ("LR", gI), ("x", .local), ("WORD", gI)] = true := by decide +kernel
theorem AO5 : AAh ["machine", "d", "n", "x"] ["machine", "d", "n", "x"] (AAb AH0) := fsc
theorem AHc : namesOk (AAb AH0) [("machine", .local), ("PC", gI)] = true := by decide +kernel
theorem AX4 : AAh ["machine", "d", "n", "x"] ["machine", "d", "n", "x"] (AAb AVz) := fsc
theorem ATi : AAh ["machine", "d", "n", "x"] ["machine", "d", "n", "x"] (AAb AN8) := fsc
theorem AKk : namesOk (AAb AN8) [("machine", .local), ("AT_BKPT", gI), ("x", .local)] = true := by decide +kernel
theorem AYb : AAh ["machine", "d", "n", "x"] ["machine", "d", "n", "x"] (AAb APr) := fsc
theorem AM3 : namesOk (AAb APr) [("machine", .local), ("AT_SVC", gI), ("x", .local)] = true := by decide +kernel
theorem AUp : AAh ["machine", "d", "n", "x"] ["machine", "d", "n", "x"] (AAb AMs) := fsc
theorem AO2 : namesOk (AAb AMs) [("machine", .local), ("NO_INSTRUCTION", gI)] = true := by decide +kernel
theorem AEu : AAh ["machine", "instruction", "m", "second"] ["machine", "instruction"] (AAb AE5) := fsc
theorem AAu : namesOk (AAb AE5) [("instruction", .local), ("m", .local), ("machine", .local), ("second", .local), ("DOERS", gI)] = true := by decide +kernel
theorem A4c : AAh ["n", "state", "places", "data", "machine", "done"] ["n", "state", "places", "data"] (AAb A52) := fsc
theorem AF4 : namesOk (AAb A52) [("n", .local), ("MOST_STEPS", gI), ("state", .local), ("can_be", gI), ("Machine", gI), ("places", .local), ("data", .local), ("machine", .local), ("do_steps", gI), ("done", .local), ("state_of", gI), ("changes_of", gI)] = true := by decide +kernel
theorem AYj : AAh ["state"] ["state"] (AAb AP6) := fsc
theorem AIl : namesOk (AAb AP6) [("state", .local), ("SP", gI), ("PC", gI)] = true := by decide +kernel
theorem AEc : AAh ["machine", "n", "regs", "known", "done", "place", "instruction"] ["machine", "n"] (AAb AKx) := fsc
theorem AAj : namesOk (AAb AKx) [("machine", .local), ("regs", .local), ("known", .local), ("done", .local), ("n", .local), ("STEPS_DONE", gI), ("PC", gI), ("place", .local), ("SIZE", gI), ("BEYOND_MEMORY", gI), ("instruction_now", gI), ("instruction", .local), ("do_instruction", gI), ("AT_SVC", gI)] = true := by decide +kernel
theorem AD5 : AAh ["memory", "place", "known", "half", "instruction"] ["memory", "place", "known"] (AAb AEr) := fsc
theorem AAm : namesOk (AAb AEr) [("half_at", gI), ("memory", .local), ("place", .local), ("half", .local), ("known", .local), ("instruction_at", gI), ("instruction", .local), ("is_first_half", gI)] = true := by decide +kernel
structure Txt (K : Frag) (mg : Str → Option Value) : Prop where
  n_len : mg "len" = none
  n_range : mg "range" = none
  n_sorted : mg "sorted" = none
  n_tuple : mg "tuple" = none
  n_zip : mg "zip" = none
  c_SIZE : ∃ t, mg "SIZE" = some (.int ((65536 : Nat) : Int) t)
  c_WORD : ∃ t, mg "WORD" = some (.int ((4294967295 : Nat) : Int) t)
  c_SP : ∃ t, mg "SP" = some (.int ((13 : Nat) : Int) t)
  c_LR : ∃ t, mg "LR" = some (.int ((14 : Nat) : Int) t)
  c_PC : ∃ t, mg "PC" = some (.int ((15 : Nat) : Int) t)
  c_STEPS_DONE : ∃ t, mg "STEPS_DONE" = some (.int ((0 : Nat) : Int) t)
  c_NO_INSTRUCTION : ∃ t, mg "NO_INSTRUCTION" = some (.int ((1 : Nat) : Int) t)
  c_NO_PLACE : ∃ t, mg "NO_PLACE" = some (.int ((2 : Nat) : Int) t)
  c_AT_BKPT : ∃ t, mg "AT_BKPT" = some (.int ((3 : Nat) : Int) t)
  c_AT_SVC : ∃ t, mg "AT_SVC" = some (.int ((4 : Nat) : Int) t)
  c_BEYOND_MEMORY : ∃ t, mg "BEYOND_MEMORY" = some (.int ((5 : Nat) : Int) t)
  c_NONE : ∃ a, mg "NONE" = some (.ref a) ∧ ∃ e, TupK K [.str "none", .non, .non, .non, .int 0, .ref e] a ∧ TupK K [] e
  c_WIDE : ∃ t, mg "WIDE" = some (.int ((30 : Nat) : Int) t)
  c_ALONE : ∃ a, mg "ALONE" = some (.ref a) ∧ TupK K [] a
  c_OF_ONE : ∃ a, mg "OF_ONE" = some (.ref a) ∧ TupK K [.str "second"] a
  c_OF_TWO : ∃ a, mg "OF_TWO" = some (.ref a) ∧ TupK K [.str "d", .str "second"] a
  c_OF_TWO_AND_ZERO : ∃ a, mg "OF_TWO_AND_ZERO" = some (.ref a) ∧ TupK K [.str "d", .str "second", .str "zero"] a
  c_OF_THREE : ∃ a, mg "OF_THREE" = some (.ref a) ∧ TupK K [.str "d", .str "n", .str "second"] a
  c_WITH_PLACE : ∃ a, mg "WITH_PLACE" = some (.ref a) ∧ TupK K [.str "d", .str "place"] a
  c_WITH_LIST : ∃ a, mg "WITH_LIST" = some (.ref a) ∧ TupK K [.str "list"] a
  c_WITH_BASE_AND_LIST : ∃ a, mg "WITH_BASE_AND_LIST" = some (.ref a) ∧ TupK K [.str "base", .str "list"] a
  c_WITH_TARGET : ∃ a, mg "WITH_TARGET" = some (.ref a) ∧ TupK K [.str "target"] a
  c_SHIFTS : ∃ a, mg "SHIFTS" = some (.ref a) ∧ TupK K [.str "lsls", .str "lsrs", .str "asrs"] a
  c_WITH_BYTE : ∃ a, mg "WITH_BYTE" = some (.ref a) ∧ TupK K [.str "movs", .str "cmp", .str "adds", .str "subs"] a
  c_TWO_LOW : ∃ a, mg "TWO_LOW" = some (.ref a) ∧ TupK K [.str "ands", .str "eors", .str "lsls", .str "lsrs", .str "asrs", .str "adcs", .str "sbcs", .str "rors", .str "tst", .str "rsbs", .str "cmp", .str "cmn", .str "orrs", .str "muls", .str "bics", .str "mvns"] a
  c_TWO_HIGH : ∃ a, mg "TWO_HIGH" = some (.ref a) ∧ TupK K [.str "add", .str "cmp", .str "mov"] a
  c_BY_REGISTER : ∃ a, mg "BY_REGISTER" = some (.ref a) ∧ TupK K [.str "str", .str "strh", .str "strb", .str "ldrsb", .str "ldr", .str "ldrh", .str "ldrb", .str "ldrsh"] a
  c_BY_NUMBER : ∃ a, mg "BY_NUMBER" = some (.ref a) ∧ ∃ e0 e1 e2 e3 e4 e5, TupK K [.ref e0, .ref e1, .ref e2, .ref e3, .ref e4, .ref e5] a ∧ TupK K [.str "str", .int 4] e0 ∧ TupK K [.str "ldr", .int 4] e1 ∧ TupK K [.str "strb", .int 1] e2 ∧ TupK K [.str "ldrb", .int 1] e3 ∧ TupK K [.str "strh", .int 2] e4 ∧ TupK K [.str "ldrh", .int 2] e5
  c_EXTENSIONS : ∃ a, mg "EXTENSIONS" = some (.ref a) ∧ TupK K [.str "sxth", .str "sxtb", .str "uxth", .str "uxtb"] a
  c_TURNS : ∃ a, mg "TURNS" = some (.ref a) ∧ TupK K [.str "rev", .str "rev16", .str "none", .str "revsh"] a
  c_ODDS : ∃ a, mg "ODDS" = some (.ref a) ∧ ∃ fs : List Addr, TupK K (fs.map V.ref) a ∧ Paired (fun (f : Addr) (x : Str) => mg x = some (.ref f)) fs ["stack_pointer", "no_instruction", "extension", "no_instruction", "push_list", "push_list", "no_instruction", "no_instruction", "no_instruction", "no_instruction", "turned_bytes", "no_instruction", "pop_list", "pop_list", "bkpt", "hint"]
  c_BY_HIGHEST_BITS : ∃ a, mg "BY_HIGHEST_BITS" = some (.ref a) ∧ ∃ fs : List Addr, TupK K (fs.map V.ref) a ∧ Paired (fun (f : Addr) (x : Str) => mg x = some (.ref f)) fs ((["shift_by_number", "shift_by_number", "shift_by_number", "sum_of_three", "with_byte", "with_byte", "with_byte", "with_byte", "with_registers", "load_from_program", "move_by_register", "move_by_register", "move_by_number", "move_by_number", "move_by_number", "move_by_number", "move_by_number", "move_by_number", "move_on_stack", "move_on_stack"] : List Str) ++ (["place_in_program", "place_on_stack", "odds", "odds", "store_list", "load_list", "branch_if", "branch_if", "branch", "no_instruction", "no_instruction", "no_instruction"] : List Str))
  c_DOERS : ∃ a, mg "DOERS" = some (.ref a) ∧ ∃ fs : List Addr, TabK K a ((((["movs", "mvns", "ands", "tst", "bics", "orrs", "eors", "muls", "lsls", "lsrs", "asrs", "rors", "adds", "adcs", "cmn", "subs", "sbcs", "rsbs", "cmp", "add"] : List Str) ++ (["sub", "add_pc", "mov", "sxth", "sxtb", "uxth", "uxtb", "rev", "rev16", "revsh", "str", "strh", "strb", "ldr", "ldr_pc", "ldrh", "ldrsh", "ldrb", "ldrsb", "push"] : List Str) ++ (["pop", "stm", "ldm", "bx", "blx", "b", "b_if", "bl", "barrier", "nop", "bkpt", "svc", "none"] : List Str)) : List Str).zip (fs.map V.ref)) ∧ Paired (fun (f : Addr) (x : Str) => mg x = some (.ref f)) fs ((["do_movs", "do_mvns", "do_ands", "do_tst", "do_bics", "do_orrs", "do_eors", "do_muls", "do_lsls", "do_lsrs", "do_asrs", "do_rors", "do_adds", "do_adcs", "do_cmn", "do_subs", "do_sbcs", "do_rsbs", "do_cmp", "do_add"] : List Str) ++ (["do_sub", "do_add_pc", "do_mov", "do_sxth", "do_sxtb", "do_uxth", "do_uxtb", "do_rev", "do_rev16", "do_revsh", "do_str", "do_strh", "do_strb", "do_ldr", "do_ldr_pc", "do_ldrh", "do_ldrsh", "do_ldrb", "do_ldrsb", "do_push"] : List Str) ++ (["do_pop", "do_stm", "do_ldm", "do_bx", "do_blx", "do_b", "do_b_if", "do_bl", "do_barrier", "do_nop", "do_bkpt", "do_svc", "do_none"] : List Str))
  c_MOST_STEPS : ∃ t, mg "MOST_STEPS" = some (.int ((16777216 : Nat) : Int) t)
  ASz : Def K mg "memory_of" AJe
  AW7 : Def K mg "state_of" AKl
  AQ5 : Def K mg "changes_of" AHz
  AOc : Def K mg "set_register" AGy
  AZx : Def K mg "is_none" AMy
  AZy : Def K mg "half_at" AMz
  AZz : Def K mg "word_at" ANh
  AS0 : Def K mg "put_bytes" AJg
  AS1 : Def K mg "with_sign" AJb
  ALq : Def K mg "no_instruction" AFa
  AJ6 : Def K mg "shift_by_number" AEt
  AOd : Def K mg "sum_of_three" AGz
  AS2 : Def K mg "with_byte" AI8
  ALr : Def K mg "with_registers" AE4
  AHu : Def K mg "with_high_registers" ADe
  AH9 : Def K mg "branch_to_register" ADl
  AIu : Def K mg "load_from_program" ADw
  AJq : Def K mg "move_by_register" AEg
  ALs : Def K mg "move_by_number" AFq
  AL7 : Def K mg "move_on_stack" AF6
  AJr : Def K mg "place_in_program" AEb
  ALt : Def K mg "place_on_stack" AFs
  AL8 : Def K mg "stack_pointer" AF7
  AS3 : Def K mg "extension" AI4
  AOe : Def K mg "turned_bytes" AGv
  A5g : Def K mg "listed" ALk
  AS4 : Def K mg "push_list" AJd
  AW8 : Def K mg "pop_list" AKq
  BDs : Def K mg "bkpt" A5a
  BDt : Def K mg "hint" A3j
  BDu : Def K mg "odds" A3w
  AQ6 : Def K mg "store_list" AH7
  AS5 : Def K mg "load_list" AJc
  AS6 : Def K mg "branch_if" AJa
  A5h : Def K mg "branch" AQm
  BDv : Def K mg "wide" A2s
  AW9 : Def K mg "distance" AK4
  AL9 : Def K mg "is_first_half" AGb
  ALu : Def K mg "instruction_at" AEz
  AS7 : Def K mg "result_of" AJj
  AXa : Def K mg "total_of" AK2
  AMa : Def K mg "difference_of" AGa
  AOf : Def K mg "shifted_left" AGq
  AMb : Def K mg "shifted_right" AF5
  AIv : Def K mg "shifted_with_sign" ADu
  AOg : Def K mg "turned_right" AGx
  A9z : Def K mg "holds" AW5
  A5i : Def K mg "is_met" APj
  AZ0 : Def K mg "do_movs" AM8
  AZ1 : Def K mg "do_mvns" AN2
  AZ2 : Def K mg "do_ands" ANs
  A5j : Def K mg "do_tst" APq
  AZ3 : Def K mg "do_bics" ANu
  AZ4 : Def K mg "do_orrs" AN3
  AZ5 : Def K mg "do_eors" AMu
  AZ6 : Def K mg "do_muls" ANl
  AZ7 : Def K mg "do_lsls" AM5
  AZ8 : Def K mg "do_lsrs" ANd
  AZ9 : Def K mg "do_asrs" ANr
  A0a : Def K mg "do_rors" AOb
  A0b : Def K mg "do_adds" ANx
  A0c : Def K mg "do_adcs" ANa
  A5k : Def K mg "do_cmn" AQf
  A0d : Def K mg "do_subs" AM7
  A0e : Def K mg "do_sbcs" AMw
  A0f : Def K mg "do_rsbs" AM1
  A5l : Def K mg "do_cmp" AQs
  A5m : Def K mg "do_add" AQ0
  A5n : Def K mg "do_sub" APo
  AS8 : Def K mg "do_add_pc" AI2
  A5o : Def K mg "do_mov" AQe
  A0g : Def K mg "do_sxth" AN6
  A0h : Def K mg "do_sxtb" AMx
  A0i : Def K mg "do_uxth" AN5
  A0j : Def K mg "do_uxtb" AMo
  AG0 : Def K mg "bytes_turned_in_halves" ACt
  A5p : Def K mg "do_rev" AQp
  AXb : Def K mg "do_rev16" ALc
  AXc : Def K mg "do_revsh" ALb
  AJs : Def K mg "place_by_program" AD6
  A92 : Def K mg "store" ATs
  A5q : Def K mg "do_str" APv
  A0k : Def K mg "do_strh" ANb
  A0l : Def K mg "do_strb" ANt
  AS9 : Def K mg "load_word" AJk
  ATa : Def K mg "load_half" AIz
  ATb : Def K mg "load_byte" AI3
  A5r : Def K mg "do_ldr" AQa
  ATc : Def K mg "do_ldr_pc" AJi
  A0m : Def K mg "do_ldrh" ANw
  AXd : Def K mg "do_ldrsh" ALe
  A0n : Def K mg "do_ldrb" ANy
  AXe : Def K mg "do_ldrsb" ALj
  AJt : Def K mg "is_none_for_list" AEe
  AXf : Def K mg "put_list" ALp
  ATd : Def K mg "take_list" AJp
  A0o : Def K mg "do_push" ANe
  A5s : Def K mg "do_pop" APk
  A5t : Def K mg "do_stm" APi
  A5u : Def K mg "do_ldm" AQ4
  AOh : Def K mg "go_to_marked" AGs
  BAa : Def K mg "do_bx" AWl
  A5v : Def K mg "do_blx" AP0
  BDw : Def K mg "do_b" A45
  A0p : Def K mg "do_b_if" ANp
  BAb : Def K mg "do_bl" AUo
  AQ7 : Def K mg "do_barrier" AH0
  A5w : Def K mg "do_nop" AVz
  A0q : Def K mg "do_bkpt" AN8
  A5x : Def K mg "do_svc" APr
  A0r : Def K mg "do_none" AMs
  ALv : Def K mg "do_instruction" AE5
  d_run : Def K mg "run" A52
  A5y : Def K mg "can_be" AP6
  AXg : Def K mg "do_steps" AKx
  AJ7 : Def K mg "instruction_now" AEr
end Chip
namespace Chip
open PySem L2 LX
theorem A8w {m : List Nat} {p : Nat} (h : p < m.length) : (m.map vN)[p]? = some (vN (m.getD p 0)) := by
  rw [List.getElem?_map, List.getElem?_eq_getElem h, List.getD_eq_getElem?_getD, List.getElem?_eq_getElem h]
  rfl
theorem ARd {m : List Nat} (h : ∀ x ∈ m, x < 256) (p : Nat) : m.getD p 0 < 256 := by
  rw [List.getD_eq_getElem?_getD]
  cases e : m[p]? with
  | none => show 0 < 256; omega
  | some v => exact h v (List.mem_of_getElem? e)
theorem A4g {a b : Nat} (h : a < 256) : a ||| b * 2 ^ 8 = a + 256 * b := by
  rw [Nat.or_comm, Nat.mul_comm, ← Nat.two_pow_add_eq_or_of_lt (i := 8) h]
  omega
section
variable {P : Program} {w : World} {K : Frag} {mg : Str → Option Value} {base : Heap}
noncomputable def half (m : List Nat) (p : Nat) : Nat := m.getD p 0 + 256 * m.getD (p + 1) 0
noncomputable def AU6 (K : Frag) : Sp := fun vs H Q _ => ∃ (a : Addr) (m : List Nat) (p : Nat), vs = [.ref a, vN p] ∧ SqL K H a (m.map vN) ∧ (∀ x ∈ m, x < 256) ∧ p + 1 < m.length ∧ Q (vN (half m p)) H
theorem AIt (T : Txt K mg) : Fn P w K mg base "half_at" 1 ["memory", "place"] (AU6 K) := by
  refine T.AZy.fn AV4 (fun _ _ _ _ _ _ => ln2 (fun _ _ => rfl)) (fun vs H Q E h => ?_) (fun f cdv A outer s H vs Q E hr h => ?_)
  · obtain ⟨a, m, p, rfl, _⟩ := h
    rfl
  · obtain ⟨a, m, p, rfl, hS, hb, hp, k⟩ := h
    refine ⟨_, (@AAg _ _ _ (@AAw _ _ _ _ (@AAl _ _ _ _ _ _ _ _ n_or (@ACz _ _ _ _ _ _ _ AAz (pV 0 AIq 0 nms0 14 rfl rfl rfl) (pV 1 AIq 1 nms0 16 rfl rfl rfl) (fun _ _ => rfl)) (@AAl _ _ _ _ _ _ _ _ AX1 (@ACz _ _ _ _ _ _ _ AAz (pV 0 AIq 0 nms0 14 rfl rfl rfl) (@AAl _ _ _ _ _ _ _ _ AHo (pV 1 AIq 1 nms0 16 rfl rfl rfl) (pn 1)) (fun _ _ => rfl)) (pn 8))))), ?_⟩
    refine is_n (AKr (AAc rfl) (AAc rfl) hS (A8w (Nat.lt_of_succ_lt hp))) (AIw (AKr (AAc rfl) (is_n (AAc rfl) is_c) hS (A8w hp)) is_c ?_) _ ?_
    · exact ⟨Nat.lt_trans (ARd hb (p + 1)) (by decide), (by decide : 8 ≤ 1000000)⟩
    · show Q (vN (m.getD p 0 ||| m.getD (p + 1) 0 * 2 ^ 8)) H
      rw [A4g (ARd hb p)]
      exact k
end
end Chip
namespace Chip
open PySem L2 LX
structure Ab where
  name : Str
  d : V
  n : V
  m : V
  i : Sum Int (List Nat)
  ops : List Str
noncomputable def AM6 (K : Frag) (H : Hp) (p : Addr) (b : Ab) : Prop := ∃ (iv : V) (po : Addr), SqT K H p [.str b.name, b.d, b.n, b.m, iv, .ref po] ∧ SqT K H po (b.ops.map V.str) ∧
  (match b.i with | .inl z => iv = .int z | .inr l => ∃ q, iv = .ref q ∧ SqT K H q (l.map vN))
theorem AM6.same {K : Frag} {H H' : Hp} {p : Addr} {b : Ab} (e : Same H H') (h : AM6 K H p b) : AM6 K H' p b := by
  obtain ⟨iv, po, h1, h2, h3⟩ := h
  refine ⟨iv, po, SqT.same e h1, SqT.same e h2, ?_⟩
  cases hi : b.i with
  | inl z => rw [hi] at h3; exact h3
  | inr l =>
    rw [hi] at h3
    obtain ⟨q, e1, e2⟩ := h3
    exact ⟨q, e1, SqT.same e e2⟩
noncomputable def AIg : List Str := ["lsls", "lsrs", "asrs"]
noncomputable def ARt : List Str := ["movs", "cmp", "adds", "subs"]
noncomputable def ANf : List Str := ["ands", "eors", "lsls", "lsrs", "asrs", "adcs", "sbcs", "rors", "tst", "rsbs", "cmp", "cmn", "orrs", "muls", "bics", "mvns"]
noncomputable def AHn : List Str := ["add", "cmp", "mov"]
noncomputable def memNames : List Str := ["str", "strh", "strb", "ldrsb", "ldr", "ldrh", "ldrb", "ldrsh"]
noncomputable def AUq : List Str := ["sxth", "sxtb", "uxth", "uxtb"]
noncomputable def AKc : List Str := ["rev", "rev16", "none", "revsh"]
noncomputable def AIn (op : Nat) : Nat := if op = 0 ∨ op = 4 then 4 else if op = 1 ∨ op = 5 then 2 else 1
noncomputable def abI (i : Sd12.Ins) : Ab := match i with
  | .shiftImm k rd rm n => if k = 0 ∧ n = 0 then ⟨"movs", vN rd, .non, vN rm, .inl 0, ["d", "second"]⟩ else ⟨AIg.getD k "", vN rd, vN rm, .non, .inl ((if n = 0 then 32 else n : Nat) : Int), ["d", "n", "second"]⟩
  | .addReg sub rd rn rm => ⟨if sub = true then "subs" else "adds", vN rd, vN rn, vN rm, .inl 0, ["d", "n", "second"]⟩
  | .addImm3 sub rd rn k => ⟨if sub = true then "subs" else "adds", vN rd, vN rn, .non, .inl (k : Nat), ["d", "n", "second"]⟩
  | .imm8 op rd k => ⟨ARt.getD op "", vN rd, vN rd, .non, .inl (k : Nat), ["d", "second"]⟩
  | .alu op rd rm => ⟨ANf.getD op "", vN rd, vN rd, vN rm, .inl 0, if op = 9 then ["d", "second", "zero"] else ["d", "second"]⟩
  | .high op rd rm => ⟨AHn.getD op "", vN rd, vN rd, vN rm, .inl 0, ["d", "second"]⟩
  | .branchReg l rm => ⟨if l = true then "blx" else "bx", .non, .non, vN rm, .inl 0, ["second"]⟩
  | .literal rt k => ⟨"ldr_pc", vN rt, vN 15, .non, .inl ((4 * k : Nat) : Int), ["d", "place"]⟩
  | .memReg op rt rn rm => ⟨memNames.getD op "", vN rt, vN rn, vN rm, .inl 0, ["d", "place"]⟩
  | .memImm op rt rn k => ⟨memNames.getD op "", vN rt, vN rn, .non, .inl ((AIn op * k : Nat) : Int), ["d", "place"]⟩
  | .adr sp rd k => if sp = true then ⟨"add", vN rd, vN 13, .non, .inl ((4 * k : Nat) : Int), ["d", "n", "second"]⟩ else ⟨"add_pc", vN rd, vN 15, .non, .inl ((4 * k : Nat) : Int), ["d", "n", "second"]⟩
  | .spMove sub k => ⟨if sub = true then "sub" else "add", vN 13, vN 13, .non, .inl ((4 * k : Nat) : Int), ["d", "second"]⟩
  | .extend op rd rm => ⟨AUq.getD op "", vN rd, .non, vN rm, .inl 0, ["d", "second"]⟩
  | .reverse op rd rm => ⟨AKc.getD op "", vN rd, .non, vN rm, .inl 0, ["d", "second"]⟩
  | .push l => ⟨"push", .non, vN 13, .non, .inr l, ["list"]⟩
  | .pop l => ⟨"pop", .non, vN 13, .non, .inr l, ["list"]⟩
  | .many load rn l => ⟨if load = true then "ldm" else "stm", .non, vN rn, .non, .inr l, ["base", "list"]⟩
  | .cond c off => ⟨"b_if", vN c, .non, .non, .inl off, ["target"]⟩
  | .branch off => ⟨"b", .non, .non, .non, .inl off, ["target"]⟩
  | .link off => ⟨"bl", .non, .non, .non, .inl off, ["target"]⟩
  | .call k => ⟨"svc", .non, .non, .non, .inl (k : Nat), ["second"]⟩
  | .halt_ k => ⟨"bkpt", .non, .non, .non, .inl (k : Nat), ["second"]⟩
  | .nothing l => ⟨if l = true then "barrier" else "nop", .non, .non, .non, .inl 0, []⟩
noncomputable def abN : Ab := ⟨"none", .non, .non, .non, .inl 0, []⟩
noncomputable def abOf : Option Sd12.Ins → Ab
  | none => abN
  | some i => abI i
theorem m1 (h : Nat) : h &&& 1 = h % 2 := Nat.and_two_pow_sub_one_eq_mod h 1
theorem m3 (h : Nat) : h &&& 3 = h % 4 := Nat.and_two_pow_sub_one_eq_mod h 2
theorem m7 (h : Nat) : h &&& 7 = h % 8 := Nat.and_two_pow_sub_one_eq_mod h 3
theorem m15 (h : Nat) : h &&& 15 = h % 16 := Nat.and_two_pow_sub_one_eq_mod h 4
theorem m31 (h : Nat) : h &&& 31 = h % 32 := Nat.and_two_pow_sub_one_eq_mod h 5
theorem m127 (h : Nat) : h &&& 127 = h % 128 := Nat.and_two_pow_sub_one_eq_mod h 7
theorem m255 (h : Nat) : h &&& 255 = h % 256 := Nat.and_two_pow_sub_one_eq_mod h 8
theorem m511 (h : Nat) : h &&& 511 = h % 512 := Nat.and_two_pow_sub_one_eq_mod h 9
theorem m1023 (h : Nat) : h &&& 1023 = h % 1024 := Nat.and_two_pow_sub_one_eq_mod h 10
theorem m2047 (h : Nat) : h &&& 2047 = h % 2048 := Nat.and_two_pow_sub_one_eq_mod h 11
theorem AMf (h k : Nat) : h &&& 2 ^ k = h / 2 ^ k % 2 * 2 ^ k := by
  apply Nat.eq_of_testBit_eq
  intro i
  rw [Nat.testBit_and, Nat.testBit_two_pow, Nat.testBit_mul_two_pow]
  by_cases e : k = i
  · subst e
    simp only [Nat.sub_self, Nat.le_refl, decide_true, Bool.true_and, Bool.and_true]
    rw [Nat.testBit_eq_decide_div_mod_eq, Nat.testBit_eq_decide_div_mod_eq]
    simp
  · rw [decide_eq_false e, Bool.and_false]
    by_cases l : k ≤ i
    · rw [decide_eq_true l, Bool.true_and]
      rw [Nat.testBit_eq_decide_div_mod_eq]
      have h2 : 2 ≤ 2 ^ (i - k) := by
        have : 2 ^ 1 ≤ 2 ^ (i - k) := Nat.pow_le_pow_right (by decide) (by omega)
        simpa using this
      have h3 : h / 2 ^ k % 2 < 2 ^ (i - k) := by omega
      rw [Nat.div_eq_of_lt h3]
      rfl
    · rw [decide_eq_false l, Bool.false_and]
theorem AFp (h k : Nat) : (((h &&& 2 ^ k : Nat) : Int) != 0) = decide (h / 2 ^ k % 2 = 1) := by
  have p : 0 < 2 ^ k := Nat.two_pow_pos k
  rw [AMf]
  generalize 2 ^ k = q at p
  rcases Nat.mod_two_eq_zero_or_one (h / q) with e | e
  · simp [e]
  · simp [e]
    omega
theorem AVa (a : Nat) : (((a : Nat) : Int) != 0) = decide (a ≠ 0) := by
  by_cases e : a = 0
  · subst e; rfl
  · simp [e]
theorem A2z {L : List Str} {i : Nat} (h : i < L.length) : (L.map V.str)[i]? = some (.str (L.getD i "")) := by
  rw [List.getElem?_map, List.getElem?_eq_getElem h, List.getD_eq_getElem?_getD, List.getElem?_eq_getElem h]
  rfl
theorem AOw {L : List Nat} {i : Nat} (h : i < L.length) : (L.map vN)[i]? = some (vN (L.getD i 0)) := by
  rw [List.getElem?_map, List.getElem?_eq_getElem h, List.getD_eq_getElem?_getD, List.getElem?_eq_getElem h]
  rfl
theorem six : (6 : Nat) ≤ sizeLine := by decide
section
variable {P : Program} {w : World} {K : Frag} {mg : Str → Option Value} {base : Heap}
theorem AWy {H : Hp} {p a : Addr} {b : Ab} {nm : Str} {d n m : V} {z : Int} {ops : List Str} {xs : List V} (hp : H p = some (.tup [.str nm, d, n, m, .int z, .ref a])) (ha : TupK K xs a) (ho : xs = ops.map V.str) (e : b = ⟨nm, d, n, m, .inl z, ops⟩) : AM6 K H p b := by
  subst e ho
  exact ⟨_, a, .of hp, ha.sq, rfl⟩
noncomputable def ADy (K : Frag) (pre : Nat → Prop) : Sp := fun vs H Q _ => ∃ h : Nat, vs = [vN h] ∧ h < 65536 ∧ pre h ∧ ∀ p H', Same H H' → (∀ nx, AM6 K H' p (abOf (Sd12.decode h nx))) → Q (.ref p) H'
theorem ARk {H : Hp} {a : Addr} (ha : ∃ e, TupK K [.str "none", .non, .non, .non, .int 0, .ref e] a ∧ TupK K [] e) : AM6 K H a abN := by
  obtain ⟨e, h1, h2⟩ := ha
  exact ⟨_, e, h1.sq, h2.sq, rfl⟩
theorem A1c {vs : List V} {H : Hp} {Q : VK} {E : XK} {pre : Nat → Prop} (h : ADy K pre vs H Q E) : vs.length = 1 := by
  obtain ⟨h, rfl, _⟩ := h
  rfl
noncomputable def KD (K : Frag) (H : Hp) (h : Nat) (Q : VK) : Prop := ∀ p H', Same H H' → (∀ nx, AM6 K H' p (abOf (Sd12.decode h nx))) → Q (.ref p) H'
theorem AEw {x : Str} {st : Stmt} {N : List Str} {k : Nat} {pre : Nat → Prop} (D : Def K mg x st) (S : AAh N ["half"] (AAb st))
    (hb : ∀ (kV doc pm : Value) (an : Option Addr) (cdv ct : Value) (us : List Value), us.length = (["half"] : List Str).length → bindArgs (fnOf x x (AEi st) (ACy st) (AAb st) .none kV doc pm an cdv ct) ⟨us, []⟩ = pure ((["half"] : List Str).zip us))
    (body : ∀ (f : Addr) (cdv : Value) (A : Around) (outer : List Env) (s : Shared) (H : Hp) (h : Nat) (Q : VK) (E : XK), Room k (A.deeper (PyProof.Rows.envOfC x (AAb st) s.heap.objs.size f cdv)) → h < 65536 → pre h → KD K H h Q →
      ∃ t, PSs (cxOf CX0 P w K mg base N x (AAb st) f cdv A outer s H E).nox (ACy st) t ∧ t { nx := fun _ H' => Q .non H', rt := Q } (start N [vN h]) H) : Fn P w K mg base x (k + 1) ["half"] (ADy K pre) := by
  refine D.fn S hb (fun vs H Q E h => A1c h) (fun f cdv A outer s H vs Q E hr h => ?_)
  obtain ⟨h, rfl, hh, hc, kk⟩ := h
  exact body f cdv A outer s H h Q E hr hh hc kk
section
variable {σ : L2.St} {H : Hp} {ta : TE} {x : Nat}
theorem i3 (ha : Is ta σ H (vN x)) : Is (tOp (rN fun a b => a &&& b) ta (tC (.int ((3 : Nat) : Int)))) σ H (vN (x % 4)) := AFw (is_n ha is_c) (congrArg vN (m3 x))
theorem i7 (ha : Is ta σ H (vN x)) : Is (tOp (rN fun a b => a &&& b) ta (tC (.int ((7 : Nat) : Int)))) σ H (vN (x % 8)) := AFw (is_n ha is_c) (congrArg vN (m7 x))
theorem i15 (ha : Is ta σ H (vN x)) : Is (tOp (rN fun a b => a &&& b) ta (tC (.int ((15 : Nat) : Int)))) σ H (vN (x % 16)) := AFw (is_n ha is_c) (congrArg vN (m15 x))
theorem i31 (ha : Is ta σ H (vN x)) : Is (tOp (rN fun a b => a &&& b) ta (tC (.int ((31 : Nat) : Int)))) σ H (vN (x % 32)) := AFw (is_n ha is_c) (congrArg vN (m31 x))
theorem i127 (ha : Is ta σ H (vN x)) : Is (tOp (rN fun a b => a &&& b) ta (tC (.int ((127 : Nat) : Int)))) σ H (vN (x % 128)) := AFw (is_n ha is_c) (congrArg vN (m127 x))
theorem i255 (ha : Is ta σ H (vN x)) : Is (tOp (rN fun a b => a &&& b) ta (tC (.int ((255 : Nat) : Int)))) σ H (vN (x % 256)) := AFw (is_n ha is_c) (congrArg vN (m255 x))
theorem ite_str {p : Prop} [Decidable p] (a b : Str) : (if p then V.str a else V.str b) = V.str (if p then a else b) := by split <;> rfl
theorem A5f {L : List Str} {i : Nat} {xs : List V} (h : i < L.length) (e : xs = L.map V.str) : xs[i]? = some (.str (L.getD i "")) := e ▸ A2z h
theorem ret6 {h : Nat} {Q : VK} {t0 t1 t2 t3 t4 : TE} {nm : Str} {d n m : V} {z : Int} {xs : List V} (k : KD K H h Q) (h0 : Is t0 σ H (.str nm)) (h1 : Is t1 σ H d) (h2 : Is t2 σ H n) (h3 : Is t3 σ H m) (h4 : Is t4 σ H (.int z))
    (ops : List Str) (hx : xs = ops.map V.str) (e : ∀ nx, abOf (Sd12.decode h nx) = ⟨nm, d, n, m, .inl z, ops⟩) :
    tTup (ABx t0 (ABx t1 (ABx t2 (ABx t3 (ABx t4 (ABx (tGr (TupK K xs)) tNil)))))) σ H Q :=
  h0 _ (h1 _ (h2 _ (h3 _ (h4 _ fun a ha => ⟨six, fun p hp => k p _ (ABm hp) fun nx => AWy AAv ha hx (e nx)⟩))))
theorem AGd {h : Nat} {Q : VK} (k : KD K H h Q) (e : ∀ nx, Sd12.decode h nx = none) : tGr (fun a => ∃ e, TupK K [.str "none", .non, .non, .non, .int 0, .ref e] a ∧ TupK K [] e) σ H Q :=
  fun a ha => k a _ (Same.refl _) fun nx => by
    rw [e nx]
    exact ARk ha
end
theorem AEs (T : Txt K mg) : Fn P w K mg base "no_instruction" 1 ["half"] (ADy K fun h => ∀ nx, Sd12.decode h nx = none) := by
  refine AEw T.ALq AJy (fun _ _ _ _ _ _ => ln1 (fun _ => rfl)) (fun f cdv A outer s H h Q E hr hh hc k => ?_)
  exact ⟨_, (@AAg _ _ _ (@AAw _ _ _ _ (@ABq _ _ _ _ T.c_NONE (lj AJ3 0 rfl) (nj nms1 4 rfl).1))), AGd k hc⟩
theorem AWu {j : Nat} (h : j < 3) : AIg.getD j "" = "lsls" ↔ j = 0 := (by decide +kernel : ∀ t : _root_.Fin 3, AIg.getD t.1 "" = "lsls" ↔ t.1 = 0) ⟨j, h⟩
theorem AD4 (T : Txt K mg) : Fn P w K mg base "shift_by_number" 1 ["half"] (ADy K fun h => h / 2048 < 3) := by
  refine AEw T.AJ6 ACm (fun _ _ _ _ _ _ => ln1 (fun _ => rfl)) (fun f cdv A outer s H h Q E hr hh hc k => ?_)
  refine ⟨_, (@AAf _ _ _ _ _ (@ABk _ _ 1 _ _ _ _ ACm.nd rfl (Or.inl (lj AAk 1 rfl)) (@AAl _ _ _ _ _ _ _ _ ABt (pV 0 AAk 0 nms1 5 rfl rfl rfl) (pn 7)) rfl (.inl rfl)) (@AAf _ _ _ _ _ (@ABk _ _ 2 _ _ _ _ ACm.nd rfl (Or.inl (lj AAk 2 rfl)) (@AAl _ _ _ _ _ _ _ _ ABt (@AAl _ _ _ _ _ _ _ _ AEj (pV 0 AAk 0 nms1 5 rfl rfl rfl) (pn 3)) (pn 7)) rfl (.inl rfl)) (@AAf _ _ _ _ _ (@ABk _ _ 3 _ _ _ _ ACm.nd rfl (Or.inl (lj AAk 3 rfl)) (@AAl _ _ _ _ _ _ _ _ ABt (@AAl _ _ _ _ _ _ _ _ AEj (pV 0 AAk 0 nms1 5 rfl rfl rfl) (pn 6)) (pn 31)) rfl (.inl rfl)) (@AAf _ _ _ _ _ (@ABk _ _ 4 _ _ _ _ ACm.nd rfl (Or.inl (lj AAk 5 rfl)) (@ACz _ _ _ _ _ _ _ AGn (@ABq _ _ _ _ T.c_SHIFTS (lj AAk 4 rfl) (nj nms1 6 rfl).1) (@AAl _ _ _ _ _ _ _ _ AEj (pV 0 AAk 0 nms1 5 rfl rfl rfl) (pn 11)) (fun _ _ => rfl)) rfl (.inl rfl)) (@AAf _ _ _ _ _ (@AEn _ _ _ _ _ _ _ _ (@PW.pt _ _ _ (@AOs _ _ _ _ _ _ _ (@AAy _ _ _ _ _ _ _ _ AEl (pV 3 AAk 3 nms1 7 rfl rfl rfl) (pn 0) rfl) (@AKg _ _ _ _ (@AAy _ _ _ _ _ _ _ _ AEl (pV 4 AAk 5 nms1 8 rfl rfl rfl) AD2 rfl)))) (@AAg _ _ _ (@AAw _ _ _ _ (@ADv _ _ _ _ _ (@AAa _ _ _ _ _ AD2 (@AAa _ _ _ _ _ (pV 1 AAk 1 nms0 20 rfl rfl rfl) (@AAa _ _ _ _ _ ACi (@AAa _ _ _ _ _ (pV 2 AAk 2 nms1 9 rfl rfl rfl) (@AAa _ _ _ _ _ (pn 0) (@AAa _ _ _ _ _ (@ABq _ _ _ _ T.c_OF_TWO (lj AAk 6 rfl) (nj nms1 10 rfl).1) AAi rfl) rfl) rfl) rfl) rfl) rfl)))) ABf) (@AAg _ _ _ (@AAw _ _ _ _ (@ADv _ _ _ _ _ (@AAa _ _ _ _ _ (pV 4 AAk 5 nms1 8 rfl rfl rfl) (@AAa _ _ _ _ _ (pV 1 AAk 1 nms0 20 rfl rfl rfl) (@AAa _ _ _ _ _ (pV 2 AAk 2 nms1 9 rfl rfl rfl) (@AAa _ _ _ _ _ ACi (@AAa _ _ _ _ _ (@AGo _ _ _ _ _ _ _ _ (@AAy _ _ _ _ _ _ _ _ AEl (pV 3 AAk 3 nms1 7 rfl rfl rfl) (pn 0) rfl) (pn 32) (pV 3 AAk 3 nms1 7 rfl rfl rfl)) (@AAa _ _ _ _ _ (@ABq _ _ _ _ T.c_OF_THREE (lj AAk 7 rfl) (nj nms1 11 rfl).1) AAi rfl) rfl) rfl) rfl) rfl) rfl))))))))), ?_⟩
  refine i7 (AAc rfl) _ ?_
  refine i7 (is_n (AAc rfl) is_c) _ ?_
  refine i31 (is_n (AAc rfl) is_c) _ ?_
  refine APp (j := h / 2048) (by exact is_n (AAc rfl) is_c) (A5f (L := AIg) hc rfl) _ ?_
  refine ifs (b := decide (h / 64 % 32 = 0) && decide (h / 2048 = 0)) (A5z (ABg (ADa (AAc rfl) is_c)) (ABg (AT9 (AAc rfl) is_c (AWu hc)))) ?_
  refine ite2 (fun c => ?_) (fun c => ?_)
  · rw [Bool.and_eq_true, decide_eq_true_eq, decide_eq_true_eq] at c
    refine ret6 k is_c (AAc rfl) is_c (AAc rfl) is_c ["d", "second"] rfl fun nx => ?_
    rw [ANm hc]
    exact if_pos ⟨c.2, c.1⟩
  · rw [Bool.and_eq_true, decide_eq_true_eq, decide_eq_true_eq] at c
    refine ret6 k (AAc rfl) (AAc rfl) (AAc rfl) is_c (AFw (AU9 (ABg (ADa (AAc rfl) is_c)) is_c (AAc rfl)) (v' := .int ((if h / 64 % 32 = 0 then 32 else h / 64 % 32 : Nat) : Int)) ?_) ["d", "n", "second"] rfl fun nx => ?_
    · show (if h / 64 % 32 = 0 then vN 32 else vN (h / 64 % 32)) = _
      split <;> rfl
    · rw [ANm hc]
      exact if_neg fun z => c ⟨z.2, z.1⟩
theorem AYy {x : Nat} : ((x == 1) = true) = (x = 1) := propext beq_iff_eq
theorem AL0 (T : Txt K mg) : Fn P w K mg base "sum_of_three" 1 ["half"] (ADy K fun h => h / 2048 = 3) := by
  refine AEw T.AOd ADi (fun _ _ _ _ _ _ => ln1 (fun _ => rfl)) (fun f cdv A outer s H h Q E hr hh hc k => ?_)
  refine ⟨_, (@AAf _ _ _ _ _ (@ABk _ _ 1 _ _ _ _ ADi.nd rfl (Or.inl (lj AAp 1 rfl)) (@AGo _ _ _ _ _ _ _ _ (@AFf _ _ _ (@AAl _ _ _ _ _ _ _ _ ABt (pV 0 AAp 0 nms1 5 rfl rfl rfl) (pn 512)) (fun _ => rfl)) AD2 AD2) rfl (.inl rfl)) (@AAf _ _ _ _ _ (@ABk _ _ 2 _ _ _ _ ADi.nd rfl (Or.inl (lj AAp 2 rfl)) (@AAl _ _ _ _ _ _ _ _ ABt (pV 0 AAp 0 nms1 5 rfl rfl rfl) (pn 7)) rfl (.inl rfl)) (@AAf _ _ _ _ _ (@ABk _ _ 3 _ _ _ _ ADi.nd rfl (Or.inl (lj AAp 3 rfl)) (@AAl _ _ _ _ _ _ _ _ ABt (@AAl _ _ _ _ _ _ _ _ AEj (pV 0 AAp 0 nms1 5 rfl rfl rfl) (pn 3)) (pn 7)) rfl (.inl rfl)) (@AAf _ _ _ _ _ (@ABk _ _ 4 _ _ _ _ ADi.nd rfl (Or.inl (lj AAp 4 rfl)) (@AAl _ _ _ _ _ _ _ _ ABt (@AAl _ _ _ _ _ _ _ _ AEj (pV 0 AAp 0 nms1 5 rfl rfl rfl) (pn 6)) (pn 7)) rfl (.inl rfl)) (@AAf _ _ _ _ _ (@AEn _ _ _ _ _ _ _ _ (@AFf _ _ _ (@AAl _ _ _ _ _ _ _ _ ABt (pV 0 AAp 0 nms1 5 rfl rfl rfl) (pn 1024)) (fun _ => rfl)) (@AAg _ _ _ (@AAw _ _ _ _ (@ADv _ _ _ _ _ (@AAa _ _ _ _ _ (pV 1 AAp 1 nms1 8 rfl rfl rfl) (@AAa _ _ _ _ _ (pV 2 AAp 2 nms0 20 rfl rfl rfl) (@AAa _ _ _ _ _ (pV 3 AAp 3 nms1 12 rfl rfl rfl) (@AAa _ _ _ _ _ ACi (@AAa _ _ _ _ _ (pV 4 AAp 4 nms1 13 rfl rfl rfl) (@AAa _ _ _ _ _ (@ABq _ _ _ _ T.c_OF_THREE (lj AAp 5 rfl) (nj nms1 11 rfl).1) AAi rfl) rfl) rfl) rfl) rfl) rfl)))) ABf) (@AAg _ _ _ (@AAw _ _ _ _ (@ADv _ _ _ _ _ (@AAa _ _ _ _ _ (pV 1 AAp 1 nms1 8 rfl rfl rfl) (@AAa _ _ _ _ _ (pV 2 AAp 2 nms0 20 rfl rfl rfl) (@AAa _ _ _ _ _ (pV 3 AAp 3 nms1 12 rfl rfl rfl) (@AAa _ _ _ _ _ (pV 4 AAp 4 nms1 13 rfl rfl rfl) (@AAa _ _ _ _ _ (pn 0) (@AAa _ _ _ _ _ (@ABq _ _ _ _ T.c_OF_THREE (lj AAp 5 rfl) (nj nms1 11 rfl).1) AAi rfl) rfl) rfl) rfl) rfl) rfl))))))))), ?_⟩
  refine AFw (AU9 (p := h / 512 % 2 = 1) (ANn (is_n (AAc rfl) is_c) (AFp h 9)) is_c is_c) (ite_str _ _) _ ?_
  refine i7 (AAc rfl) _ ?_
  refine i7 (is_n (AAc rfl) is_c) _ ?_
  refine i7 (is_n (AAc rfl) is_c) _ ?_
  refine ifsP (p := h / 1024 % 2 = 1) (ANn (is_n (AAc rfl) is_c) (AFp h 10)) (fun c => ?_) (fun c => ?_)
  · refine ret6 k (AAc rfl) (AAc rfl) (AAc rfl) is_c (AAc rfl) ["d", "n", "second"] rfl fun nx => ?_
    rw [AUm hc, if_pos c]
    show (⟨if (h / 512 % 2 == 1) = true then "subs" else "adds", _, _, _, _, _⟩ : Ab) = _
    simp only [AYy]
  · refine ret6 k (AAc rfl) (AAc rfl) (AAc rfl) (AAc rfl) is_c ["d", "n", "second"] rfl fun nx => ?_
    rw [AUm hc, if_neg c]
    show (⟨if (h / 512 % 2 == 1) = true then "subs" else "adds", _, _, _, _, _⟩ : Ab) = _
    simp only [AYy]
    rfl
theorem AGu (T : Txt K mg) : Fn P w K mg base "with_byte" 1 ["half"] (ADy K fun h => 4 ≤ h / 2048 ∧ h / 2048 < 8) := by
  refine AEw T.AS2 ALl (fun _ _ _ _ _ _ => ln1 (fun _ => rfl)) (fun f cdv A outer s H h Q E hr hh hc k => ?_)
  refine ⟨_, (@AAf _ _ _ _ _ (@ABk _ _ 1 _ _ _ _ ALl.nd rfl (Or.inl (lj ADb 1 rfl)) (@AAl _ _ _ _ _ _ _ _ ABt (@AAl _ _ _ _ _ _ _ _ AEj (pV 0 ADb 0 nms1 5 rfl rfl rfl) (pn 8)) (pn 7)) rfl (.inl rfl)) (@AAg _ _ _ (@AAw _ _ _ _ (@ADv _ _ _ _ _ (@AAa _ _ _ _ _ (@ACz _ _ _ _ _ _ _ AGn (@ABq _ _ _ _ T.c_WITH_BYTE (lj ADb 2 rfl) (nj nms1 14 rfl).1) (@AAl _ _ _ _ _ _ _ _ ABt (@AAl _ _ _ _ _ _ _ _ AEj (pV 0 ADb 0 nms1 5 rfl rfl rfl) (pn 11)) (pn 3)) (fun _ _ => rfl)) (@AAa _ _ _ _ _ (pV 1 ADb 1 nms0 20 rfl rfl rfl) (@AAa _ _ _ _ _ (pV 1 ADb 1 nms0 20 rfl rfl rfl) (@AAa _ _ _ _ _ ACi (@AAa _ _ _ _ _ (@AAl _ _ _ _ _ _ _ _ ABt (pV 0 ADb 0 nms1 5 rfl rfl rfl) (pn 255)) (@AAa _ _ _ _ _ (@ABq _ _ _ _ T.c_OF_TWO (lj ADb 3 rfl) (nj nms1 10 rfl).1) AAi rfl) rfl) rfl) rfl) rfl) rfl))))), ?_⟩
  refine i7 (is_n (AAc rfl) is_c) _ ?_
  refine ret6 k (APp (i3 (is_n (AAc rfl) is_c)) (A5f (L := ARt) (Nat.mod_lt _ (by decide)) rfl)) (AAc rfl) (AAc rfl) is_c (i255 (AAc rfl)) ["d", "second"] rfl fun nx => ?_
  rw [AWf hc.1 hc.2]
  rfl
theorem bN (x y : Nat) : V.bl (decide (V.int (x : Int) = V.int (y : Int))) = V.bl (decide (x = y)) := congrArg V.bl (decide_eq_decide.mpr (by rw [V.int.injEq]; omega))
theorem bLt (x y : Nat) : V.bl (decide ((x : Int) < (y : Int))) = V.bl (decide (x < y)) := congrArg V.bl (decide_eq_decide.mpr (by omega))
end
end Chip
namespace Chip
open PySem L2 LX
section
variable {P : Program} {w : World} {K : Frag} {mg : Str → Option Value} {base : Heap}
theorem A2c (h : Nat) : (((h &&& 7 : Nat) : Int) != 0) = decide (h % 8 ≠ 0) := by rw [AVa, m7]
theorem AHt (T : Txt K mg) : Fn P w K mg base "branch_to_register" 1 ["half"] (ADy K fun h => h / 1024 = 17 ∧ h / 256 % 4 = 3) := by
  refine AEw T.AH9 AEv (fun _ _ _ _ _ _ => ln1 (fun _ => rfl)) (fun f cdv A outer s H h Q E hr hh hc k => ?_)
  refine ⟨_, (@AAf _ _ _ _ _ (@ABk _ _ 1 _ _ _ _ AEv.nd rfl (Or.inl (lj AAx 1 rfl)) (@AAl _ _ _ _ _ _ _ _ ABt (@AAl _ _ _ _ _ _ _ _ AEj (pV 0 AAx 0 nms1 5 rfl rfl rfl) (pn 3)) (pn 15)) rfl (.inl rfl)) (@AAf _ _ _ _ _ (@AEn _ _ _ _ _ _ _ _ (@PW.pt _ _ _ (@A56 _ _ _ _ _ _ _ (@AFf _ _ _ (@AAl _ _ _ _ _ _ _ _ ABt (pV 0 AAx 0 nms1 5 rfl rfl rfl) (pn 7)) (fun _ => rfl)) (@AU0 _ _ _ _ (@AAy _ _ _ _ _ _ _ _ AEl (pV 1 AAx 1 nms1 9 rfl rfl rfl) (@AAt _ _ _ _ T.c_PC (lj AAx 2 rfl) (nj nms0 9 rfl).1) rfl)))) (@AAg _ _ _ (@AAw _ _ _ _ (@ABq _ _ _ _ T.c_NONE (lj AAx 3 rfl) (nj nms1 4 rfl).1))) ABf) (@AAg _ _ _ (@AAw _ _ _ _ (@ADv _ _ _ _ _ (@AAa _ _ _ _ _ (@AGo _ _ _ _ _ _ _ _ (@AFf _ _ _ (@AAl _ _ _ _ _ _ _ _ ABt (pV 0 AAx 0 nms1 5 rfl rfl rfl) (pn 128)) (fun _ => rfl)) AD2 AD2) (@AAa _ _ _ _ _ ACi (@AAa _ _ _ _ _ ACi (@AAa _ _ _ _ _ (pV 1 AAx 1 nms1 9 rfl rfl rfl) (@AAa _ _ _ _ _ (pn 0) (@AAa _ _ _ _ _ (@ABq _ _ _ _ T.c_OF_ONE (lj AAx 4 rfl) (nj nms1 21 rfl).1) AAi rfl) rfl) rfl) rfl) rfl) rfl)))))), ?_⟩
  refine i15 (is_n (AAc rfl) is_c) _ ?_
  refine ifs (b := decide (h % 8 ≠ 0) || decide (h / 8 % 16 = 15)) (p_or (ANn (is_n (AAc rfl) is_c) (A2c h)) (ABg (ADa (AAc rfl) is_c))) ?_
  refine ite2 (fun c => ?_) (fun c => ?_)
  · rw [Bool.or_eq_true, decide_eq_true_eq, decide_eq_true_eq] at c
    exact AGd k fun nx => by rw [AIy hc.1, if_pos hc.2, if_pos c]
  · rw [Bool.or_eq_true, decide_eq_true_eq, decide_eq_true_eq] at c
    refine ret6 k (AFw (AU9 (p := h / 128 % 2 = 1) (ANn (is_n (AAc rfl) is_c) (AFp h 7)) is_c is_c) (ite_str _ _)) is_c is_c (AAc rfl) is_c ["second"] rfl fun nx => ?_
    rw [AIy hc.1, if_pos hc.2, if_neg c]
    show (⟨if (h / 128 % 2 == 1) = true then "blx" else "bx", _, _, _, _, _⟩ : Ab) = _
    simp only [AYy]
    rfl
theorem A7n (h : Nat) : (h / 16 &&& 8) ||| (h &&& 7) = h % 8 + 8 * (h / 128 % 2) := by
  have e : h / 16 &&& 8 = h / 16 / 8 % 2 * 8 := AMf (h / 16) 3
  rw [e, m7, Nat.mul_comm, ← Nat.two_pow_add_eq_or_of_lt (i := 3) (Nat.mod_lt _ (by decide)), Nat.div_div_eq_div_mul, Nat.add_comm]
theorem ihigh {σ : L2.St} {H : Hp} {ta : TE} {x : Nat} (ha : Is ta σ H (vN x)) :
    Is (tOp (rN fun a b => a ||| b) (tOp (rN fun a b => a &&& b) (tOp (rN fun a b => a / 2 ^ b) ta (tC (.int ((4 : Nat) : Int)))) (tC (.int ((8 : Nat) : Int)))) (tOp (rN fun a b => a &&& b) ta (tC (.int ((7 : Nat) : Int))))) σ H (vN (x % 8 + 8 * (x / 128 % 2))) :=
  AFw (is_n (is_n (is_n ha is_c) is_c) (is_n ha is_c)) (congrArg vN (A7n x))
theorem AZt {j : Nat} (h : j < 3) : (AHn.getD j "" = "add" ↔ j = 0) ∧ (AHn.getD j "" = "cmp" ↔ j = 1) := (by decide +kernel : ∀ t : _root_.Fin 3, (AHn.getD t.1 "" = "add" ↔ t.1 = 0) ∧ (AHn.getD t.1 "" = "cmp" ↔ t.1 = 1)) ⟨j, h⟩
theorem AG4 (T : Txt K mg) : Fn P w K mg base "with_high_registers" 2 ["half"] (ADy K fun h => h / 1024 = 17) := by
  have G_branch_to_register := AHt (P := P) (w := w) (base := base) T
  refine AEw T.AHu ABr (fun _ _ _ _ _ _ => ln1 (fun _ => rfl)) (fun f cdv A outer s H h Q E hr hh hc k => ?_)
  refine ⟨_, (@AAf _ _ _ _ _ (@ABk _ _ 1 _ _ _ _ ABr.nd rfl (Or.inl (lj AAd 1 rfl)) (@AAl _ _ _ _ _ _ _ _ ABt (@AAl _ _ _ _ _ _ _ _ AEj (pV 0 AAd 0 nms1 5 rfl rfl rfl) (pn 8)) (pn 3)) rfl (.inl rfl)) (@AAf _ _ _ _ _ (@AEn _ _ _ _ _ _ _ _ (@AAy _ _ _ _ _ _ _ _ AEl (pV 1 AAd 1 nms1 18 rfl rfl rfl) (pn 3) rfl) (@AAg _ _ _ (@AAw _ _ _ _ (@ABy _ _ _ _ _ _ _ _ _ _ G_branch_to_register (hmo hr) (lj AAd 2 rfl) (@AAa _ _ _ _ _ (pV 0 AAd 0 nms1 5 rfl rfl rfl) AAi rfl) (nj nms1 19 rfl).1 rfl rfl))) ABf) (@AAf _ _ _ _ _ (@ABk _ _ 2 _ _ _ _ ABr.nd rfl (Or.inl (lj AAd 3 rfl)) (@AAl _ _ _ _ _ _ _ _ n_or (@AAl _ _ _ _ _ _ _ _ ABt (@AAl _ _ _ _ _ _ _ _ AEj (pV 0 AAd 0 nms1 5 rfl rfl rfl) (pn 4)) (pn 8)) (@AAl _ _ _ _ _ _ _ _ ABt (pV 0 AAd 0 nms1 5 rfl rfl rfl) (pn 7))) rfl (.inl rfl)) (@AAf _ _ _ _ _ (@ABk _ _ 3 _ _ _ _ ABr.nd rfl (Or.inl (lj AAd 4 rfl)) (@AAl _ _ _ _ _ _ _ _ ABt (@AAl _ _ _ _ _ _ _ _ AEj (pV 0 AAd 0 nms1 5 rfl rfl rfl) (pn 3)) (pn 15)) rfl (.inl rfl)) (@AAf _ _ _ _ _ (@ABk _ _ 4 _ _ _ _ ABr.nd rfl (Or.inl (lj AAd 6 rfl)) (@ACz _ _ _ _ _ _ _ AGn (@ABq _ _ _ _ T.c_TWO_HIGH (lj AAd 5 rfl) (nj nms1 20 rfl).1) (pV 1 AAd 1 nms1 18 rfl rfl rfl) (fun _ _ => rfl)) rfl (.inl rfl)) (@AAf _ _ _ _ _ (@AEn _ _ _ _ _ _ _ _ (@PW.pt _ _ _ (@AOs _ _ _ _ _ _ _ (@AAy _ _ _ _ _ _ _ _ AEl (pV 4 AAd 6 nms1 8 rfl rfl rfl) AD2 rfl) (@AOs _ _ _ _ _ _ _ (@AAy _ _ _ _ _ _ _ _ AEl (pV 2 AAd 3 nms0 20 rfl rfl rfl) (@AAt _ _ _ _ T.c_PC (lj AAd 7 rfl) (nj nms0 9 rfl).1) rfl) (@AKg _ _ _ _ (@AAy _ _ _ _ _ _ _ _ AEl (pV 3 AAd 4 nms1 9 rfl rfl rfl) (@AAt _ _ _ _ T.c_PC (lj AAd 7 rfl) (nj nms0 9 rfl).1) rfl))))) (@AAg _ _ _ (@AAw _ _ _ _ (@ABq _ _ _ _ T.c_NONE (lj AAd 8 rfl) (nj nms1 4 rfl).1))) ABf) (@AAf _ _ _ _ _ (@AEn _ _ _ _ _ _ _ _ (@PW.pt _ _ _ (@AOs _ _ _ _ _ _ _ (@AAy _ _ _ _ _ _ _ _ AEl (pV 4 AAd 6 nms1 8 rfl rfl rfl) AD2 rfl) (@AKg _ _ _ _ (@PW.pt _ _ _ (@A56 _ _ _ _ _ _ _ (@AAy _ _ _ _ _ _ _ _ AEl (pV 2 AAd 3 nms0 20 rfl rfl rfl) (@AAt _ _ _ _ T.c_PC (lj AAd 7 rfl) (nj nms0 9 rfl).1) rfl) (@A56 _ _ _ _ _ _ _ (@AAy _ _ _ _ _ _ _ _ AEl (pV 3 AAd 4 nms1 9 rfl rfl rfl) (@AAt _ _ _ _ T.c_PC (lj AAd 7 rfl) (nj nms0 9 rfl).1) rfl) (@AU0 _ _ _ _ (@PW.pt _ _ _ (@AOs _ _ _ _ _ _ _ (@AAy _ _ _ _ _ _ _ _ BAe (pV 2 AAd 3 nms0 20 rfl rfl rfl) (pn 8) rfl) (@AKg _ _ _ _ (@AAy _ _ _ _ _ _ _ _ BAe (pV 3 AAd 4 nms1 9 rfl rfl rfl) (pn 8) rfl))))))))))) (@AAg _ _ _ (@AAw _ _ _ _ (@ABq _ _ _ _ T.c_NONE (lj AAd 8 rfl) (nj nms1 4 rfl).1))) ABf) (@AAg _ _ _ (@AAw _ _ _ _ (@ADv _ _ _ _ _ (@AAa _ _ _ _ _ (pV 4 AAd 6 nms1 8 rfl rfl rfl) (@AAa _ _ _ _ _ (pV 2 AAd 3 nms0 20 rfl rfl rfl) (@AAa _ _ _ _ _ (pV 2 AAd 3 nms0 20 rfl rfl rfl) (@AAa _ _ _ _ _ (pV 3 AAd 4 nms1 9 rfl rfl rfl) (@AAa _ _ _ _ _ (pn 0) (@AAa _ _ _ _ _ (@ABq _ _ _ _ T.c_OF_TWO (lj AAd 9 rfl) (nj nms1 10 rfl).1) AAi rfl) rfl) rfl) rfl) rfl) rfl))))))))))), ?_⟩
  refine i3 (is_n (AAc rfl) is_c) _ ?_
  refine ifsP (p := h / 256 % 4 = 3) (ABg (ADa (AAc rfl) is_c)) (fun c1 => ?_) (fun c1 => ?_)
  · exact AJv (AAe (AAc rfl) AAs) ⟨h, rfl, hh, ⟨hc, c1⟩, k⟩
  have l3 : h / 256 % 4 < 3 := Nat.lt_of_le_of_ne (Nat.le_of_lt_succ (Nat.mod_lt _ (by decide))) c1
  have nm := AZt l3
  refine ihigh (AAc rfl) _ ?_
  refine i15 (is_n (AAc rfl) is_c) _ ?_
  refine APp (j := h / 256 % 4) (by exact AAc rfl) (A5f (L := AHn) l3 rfl) _ ?_
  refine ifs (b := decide (h / 256 % 4 = 0) && (decide (h % 8 + 8 * (h / 128 % 2) = 15) && decide (h / 8 % 16 = 15))) (A5z (ABg (AT9 (AAc rfl) is_c nm.1)) (A5z (ABg (ADa (AAc rfl) is_c)) (ABg (ADa (AAc rfl) is_c)))) ?_
  refine ite2 (fun c2 => ?_) (fun c2 => ?_)
  · simp only [Bool.and_eq_true, decide_eq_true_eq] at c2
    exact AGd k fun nx => by rw [AIy hc, if_neg c1, if_neg (fun z => absurd (c2.1.symm.trans z.1) (by decide)), if_pos c2]
  simp only [Bool.and_eq_true, decide_eq_true_eq] at c2
  refine ifs (b := decide (h / 256 % 4 = 1) && (decide (h % 8 + 8 * (h / 128 % 2) = 15) || (decide (h / 8 % 16 = 15) || (decide (h % 8 + 8 * (h / 128 % 2) < 8) && decide (h / 8 % 16 < 8)))))
    (A5z (ABg (AT9 (AAc rfl) is_c nm.2)) (p_or (ABg (ADa (AAc rfl) is_c)) (p_or (ABg (ADa (AAc rfl) is_c)) (A5z (ABg (A4f (AAc rfl) is_c)) (ABg (A4f (AAc rfl) is_c)))))) ?_
  refine ite2 (fun c3 => ?_) (fun c3 => ?_)
  · simp only [Bool.and_eq_true, Bool.or_eq_true, decide_eq_true_eq] at c3
    exact AGd k fun nx => by rw [AIy hc, if_neg c1, if_pos ⟨c3.1, c3.2.elim (fun z => .inr (.inl z)) fun z => z.elim (fun z => .inr (.inr z)) .inl⟩]
  · simp only [Bool.and_eq_true, Bool.or_eq_true, decide_eq_true_eq] at c3
    refine ret6 k (AAc rfl) (AAc rfl) (AAc rfl) (AAc rfl) is_c ["d", "second"] rfl fun nx => ?_
    rw [AIy hc, if_neg c1, if_neg (fun z => c3 ⟨z.1, z.2.elim (fun q => .inr (.inr q)) fun q => q.elim .inl fun q => .inr (.inl q)⟩), if_neg c2]
    rfl
theorem ret6i {σ : L2.St} {H : Hp} {h : Nat} {Q : VK} {t0 t1 t2 t3 t4 : TE} {c : TT} {p : Prop} [Decidable p] {nm : Str} {d n m : V} {z : Int} {xs ys : List V} (k : KD K H h Q) (h0 : Is t0 σ H (.str nm)) (h1 : Is t1 σ H d) (h2 : Is t2 σ H n) (h3 : Is t3 σ H m) (h4 : Is t4 σ H (.int z)) (hc : Pure c σ H (decide p))
    (ops ops' : List Str) (hx : xs = ops.map V.str) (hy : ys = ops'.map V.str) (e : ∀ nx, abOf (Sd12.decode h nx) = ⟨nm, d, n, m, .inl z, if p then ops else ops'⟩) :
    tTup (ABx t0 (ABx t1 (ABx t2 (ABx t3 (ABx t4 (ABx (tIf c (tGr (TupK K xs)) (tGr (TupK K ys))) tNil)))))) σ H Q := by
  refine h0 _ (h1 _ (h2 _ (h3 _ (h4 _ (hc _ ?_)))))
  by_cases q : p
  · rw [if_pos q] at e
    rw [decide_eq_true q]
    exact iteT fun a ha => ⟨six, fun p hp => k p _ (ABm hp) fun nx => AWy AAv ha hx (e nx)⟩
  · rw [if_neg q] at e
    rw [decide_eq_false q]
    exact iteF fun a ha => ⟨six, fun p hp => k p _ (ABm hp) fun nx => AWy AAv ha hy (e nx)⟩
theorem A4y {j : Nat} (h : j < 16) : ANf.getD j "" = "rsbs" ↔ j = 9 := (by decide +kernel : ∀ j : _root_.Fin 16, ANf.getD j.1 "" = "rsbs" ↔ j.1 = 9) ⟨j, h⟩
theorem BD2 {h : Nat} (hc : h / 2048 = 8) : (h / 1024 % 2 = 1 → h / 1024 = 17) ∧ (¬ h / 1024 % 2 = 1 → h / 1024 = 16) := by
  rw [← u2] at hc
  generalize h / 1024 = u at hc
  omega
theorem AJz (T : Txt K mg) : Fn P w K mg base "with_registers" 3 ["half"] (ADy K fun h => h / 2048 = 8) := by
  have G_with_high_registers := AG4 (P := P) (w := w) (base := base) T
  refine AEw T.ALr AEq (fun _ _ _ _ _ _ => ln1 (fun _ => rfl)) (fun f cdv A outer s H h Q E hr hh hc k => ?_)
  refine ⟨_, (@AAf _ _ _ _ _ (@AEn _ _ _ _ _ _ _ _ (@AFf _ _ _ (@AAl _ _ _ _ _ _ _ _ ABt (pV 0 AAq 0 nms1 5 rfl rfl rfl) (pn 1024)) (fun _ => rfl)) (@AAg _ _ _ (@AAw _ _ _ _ (@ABy _ _ _ _ _ _ _ _ _ _ G_with_high_registers (hmo hr) (lj AAq 1 rfl) (@AAa _ _ _ _ _ (pV 0 AAq 0 nms1 5 rfl rfl rfl) AAi rfl) (nj nms1 15 rfl).1 rfl rfl))) ABf) (@AAf _ _ _ _ _ (@ABk _ _ 1 _ _ _ _ AEq.nd rfl (Or.inl (lj AAq 2 rfl)) (@AAl _ _ _ _ _ _ _ _ ABt (pV 0 AAq 0 nms1 5 rfl rfl rfl) (pn 7)) rfl (.inl rfl)) (@AAf _ _ _ _ _ (@ABk _ _ 2 _ _ _ _ AEq.nd rfl (Or.inl (lj AAq 4 rfl)) (@ACz _ _ _ _ _ _ _ AGn (@ABq _ _ _ _ T.c_TWO_LOW (lj AAq 3 rfl) (nj nms1 16 rfl).1) (@AAl _ _ _ _ _ _ _ _ ABt (@AAl _ _ _ _ _ _ _ _ AEj (pV 0 AAq 0 nms1 5 rfl rfl rfl) (pn 6)) (pn 15)) (fun _ _ => rfl)) rfl (.inl rfl)) (@AAg _ _ _ (@AAw _ _ _ _ (@ADv _ _ _ _ _ (@AAa _ _ _ _ _ (pV 2 AAq 4 nms1 8 rfl rfl rfl) (@AAa _ _ _ _ _ (pV 1 AAq 2 nms0 20 rfl rfl rfl) (@AAa _ _ _ _ _ (pV 1 AAq 2 nms0 20 rfl rfl rfl) (@AAa _ _ _ _ _ (@AAl _ _ _ _ _ _ _ _ ABt (@AAl _ _ _ _ _ _ _ _ AEj (pV 0 AAq 0 nms1 5 rfl rfl rfl) (pn 3)) (pn 7)) (@AAa _ _ _ _ _ (pn 0) (@AAa _ _ _ _ _ (@AGo _ _ _ _ _ _ _ _ (@AAy _ _ _ _ _ _ _ _ AEl (pV 2 AAq 4 nms1 8 rfl rfl rfl) AD2 rfl) (@ABq _ _ _ _ T.c_OF_TWO_AND_ZERO (lj AAq 5 rfl) (nj nms1 17 rfl).1) (@ABq _ _ _ _ T.c_OF_TWO (lj AAq 6 rfl) (nj nms1 10 rfl).1)) AAi rfl) rfl) rfl) rfl) rfl) rfl))))))), ?_⟩
  refine ifsP (p := h / 1024 % 2 = 1) (ANn (is_n (AAc rfl) is_c) (AFp h 10)) (fun c1 => ?_) (fun c1 => ?_)
  · exact AJv (AAe (AAc rfl) AAs) ⟨h, rfl, hh, (BD2 hc).1 c1, k⟩
  have c1 := (BD2 hc).2 c1
  have l16 : h / 64 % 16 < 16 := Nat.mod_lt _ (by decide)
  refine i7 (AAc rfl) _ ?_
  refine APp (j := h / 64 % 16) (by exact i15 (is_n (AAc rfl) is_c)) (A5f (L := ANf) l16 rfl) _ ?_
  refine ret6i (p := h / 64 % 16 = 9) k (AAc rfl) (AAc rfl) (AAc rfl) (i7 (is_n (AAc rfl) is_c)) is_c (ABg (AT9 (AAc rfl) is_c (A4y l16))) ["d", "second", "zero"] ["d", "second"] rfl rfl fun nx => ?_
  rw [A0s c1]
  rfl
theorem m4 : (4 : Nat) < 2 ^ 64 := by decide
theorem AH1 (T : Txt K mg) : Fn P w K mg base "load_from_program" 1 ["half"] (ADy K fun h => h / 2048 = 9) := by
  refine AEw T.AIu AHy (fun _ _ _ _ _ _ => ln1 (fun _ => rfl)) (fun f cdv A outer s H h Q E hr hh hc k => ?_)
  refine ⟨_, (@AAg _ _ _ (@AAw _ _ _ _ (@ADv _ _ _ _ _ (@AAa _ _ _ _ _ AD2 (@AAa _ _ _ _ _ (@AAl _ _ _ _ _ _ _ _ ABt (@AAl _ _ _ _ _ _ _ _ AEj (pV 0 ACr 0 nms1 5 rfl rfl rfl) (pn 8)) (pn 7)) (@AAa _ _ _ _ _ (@AAt _ _ _ _ T.c_PC (lj ACr 1 rfl) (nj nms0 9 rfl).1) (@AAa _ _ _ _ _ ACi (@AAa _ _ _ _ _ (@AAl _ _ _ _ _ _ _ _ AOq (pn 4) (@AAl _ _ _ _ _ _ _ _ ABt (pV 0 ACr 0 nms1 5 rfl rfl rfl) (pn 255))) (@AAa _ _ _ _ _ (@ABq _ _ _ _ T.c_WITH_PLACE (lj ACr 2 rfl) (nj nms1 22 rfl).1) AAi rfl) rfl) rfl) rfl) rfl) rfl)))), ?_⟩
  refine ret6 k is_c (i7 (is_n (AAc rfl) is_c)) is_c is_c (AIw is_c (i255 (AAc rfl)) m4) ["d", "place"] rfl fun nx => ?_
  rw [A1q hc]
  rfl
theorem AIr (T : Txt K mg) : Fn P w K mg base "place_in_program" 1 ["half"] (ADy K fun h => h / 2048 = 20) := by
  refine AEw T.AJr AIa (fun _ _ _ _ _ _ => ln1 (fun _ => rfl)) (fun f cdv A outer s H h Q E hr hh hc k => ?_)
  refine ⟨_, (@AAg _ _ _ (@AAw _ _ _ _ (@ADv _ _ _ _ _ (@AAa _ _ _ _ _ AD2 (@AAa _ _ _ _ _ (@AAl _ _ _ _ _ _ _ _ ABt (@AAl _ _ _ _ _ _ _ _ AEj (pV 0 ACw 0 nms1 5 rfl rfl rfl) (pn 8)) (pn 7)) (@AAa _ _ _ _ _ (@AAt _ _ _ _ T.c_PC (lj ACw 1 rfl) (nj nms0 9 rfl).1) (@AAa _ _ _ _ _ ACi (@AAa _ _ _ _ _ (@AAl _ _ _ _ _ _ _ _ AOq (pn 4) (@AAl _ _ _ _ _ _ _ _ ABt (pV 0 ACw 0 nms1 5 rfl rfl rfl) (pn 255))) (@AAa _ _ _ _ _ (@ABq _ _ _ _ T.c_OF_THREE (lj ACw 2 rfl) (nj nms1 11 rfl).1) AAi rfl) rfl) rfl) rfl) rfl) rfl)))), ?_⟩
  refine ret6 k is_c (i7 (is_n (AAc rfl) is_c)) is_c is_c (AIw is_c (i255 (AAc rfl)) m4) ["d", "n", "second"] rfl fun nx => ?_
  rw [AUy (by rw [hc]; decide) (by rw [hc]; decide), hc]
  rfl
theorem AJ4 (T : Txt K mg) : Fn P w K mg base "place_on_stack" 1 ["half"] (ADy K fun h => h / 2048 = 21) := by
  refine AEw T.ALt AJx (fun _ _ _ _ _ _ => ln1 (fun _ => rfl)) (fun f cdv A outer s H h Q E hr hh hc k => ?_)
  refine ⟨_, (@AAg _ _ _ (@AAw _ _ _ _ (@ADv _ _ _ _ _ (@AAa _ _ _ _ _ AD2 (@AAa _ _ _ _ _ (@AAl _ _ _ _ _ _ _ _ ABt (@AAl _ _ _ _ _ _ _ _ AEj (pV 0 ADj 0 nms1 5 rfl rfl rfl) (pn 8)) (pn 7)) (@AAa _ _ _ _ _ (@AAt _ _ _ _ T.c_SP (lj ADj 1 rfl) (nj nms0 22 rfl).1) (@AAa _ _ _ _ _ ACi (@AAa _ _ _ _ _ (@AAl _ _ _ _ _ _ _ _ AOq (pn 4) (@AAl _ _ _ _ _ _ _ _ ABt (pV 0 ADj 0 nms1 5 rfl rfl rfl) (pn 255))) (@AAa _ _ _ _ _ (@ABq _ _ _ _ T.c_OF_THREE (lj ADj 2 rfl) (nj nms1 11 rfl).1) AAi rfl) rfl) rfl) rfl) rfl) rfl)))), ?_⟩
  refine ret6 k is_c (i7 (is_n (AAc rfl) is_c)) is_c is_c (AIw is_c (i255 (AAc rfl)) m4) ["d", "n", "second"] rfl fun nx => ?_
  rw [AUy (by rw [hc]; decide) (by rw [hc]; decide), hc]
  rfl
theorem AFx (T : Txt K mg) : Fn P w K mg base "move_by_register" 1 ["half"] (ADy K fun h => 10 ≤ h / 2048 ∧ h / 2048 < 12) := by
  refine AEw T.AJq AIb (fun _ _ _ _ _ _ => ln1 (fun _ => rfl)) (fun f cdv A outer s H h Q E hr hh hc k => ?_)
  refine ⟨_, (@AAg _ _ _ (@AAw _ _ _ _ (@ADv _ _ _ _ _ (@AAa _ _ _ _ _ (@ACz _ _ _ _ _ _ _ AGn (@ABq _ _ _ _ T.c_BY_REGISTER (lj ABs 0 rfl) (nj nms1 23 rfl).1) (@AAl _ _ _ _ _ _ _ _ ABt (@AAl _ _ _ _ _ _ _ _ AEj (pV 0 ABs 1 nms1 5 rfl rfl rfl) (pn 9)) (pn 7)) (fun _ _ => rfl)) (@AAa _ _ _ _ _ (@AAl _ _ _ _ _ _ _ _ ABt (pV 0 ABs 1 nms1 5 rfl rfl rfl) (pn 7)) (@AAa _ _ _ _ _ (@AAl _ _ _ _ _ _ _ _ ABt (@AAl _ _ _ _ _ _ _ _ AEj (pV 0 ABs 1 nms1 5 rfl rfl rfl) (pn 3)) (pn 7)) (@AAa _ _ _ _ _ (@AAl _ _ _ _ _ _ _ _ ABt (@AAl _ _ _ _ _ _ _ _ AEj (pV 0 ABs 1 nms1 5 rfl rfl rfl) (pn 6)) (pn 7)) (@AAa _ _ _ _ _ (pn 0) (@AAa _ _ _ _ _ (@ABq _ _ _ _ T.c_WITH_PLACE (lj ABs 2 rfl) (nj nms1 22 rfl).1) AAi rfl) rfl) rfl) rfl) rfl) rfl)))), ?_⟩
  refine ret6 k (APp (i7 (is_n (AAc rfl) is_c)) (A5f (L := memNames) (Nat.mod_lt _ (by decide)) rfl)) (i7 (AAc rfl)) (i7 (is_n (AAc rfl) is_c)) (i7 (is_n (AAc rfl) is_c)) is_c ["d", "place"] rfl fun nx => ?_
  rw [AOu hc.1 hc.2]
  rfl
theorem A2b {t : Nat} (h1 : 12 ≤ t) (h2 : t < 18) : t - 12 < 6 := by omega
theorem BDf {e0 e1 e2 e3 e4 e5 : Addr} {j : Nat} (hj : j < 6) (h0 : TupK K [.str "str", .int 4] e0) (h1 : TupK K [.str "ldr", .int 4] e1) (h2 : TupK K [.str "strb", .int 1] e2) (h3 : TupK K [.str "ldrb", .int 1] e3) (h4 : TupK K [.str "strh", .int 2] e4) (h5 : TupK K [.str "ldrh", .int 2] e5) :
    ∃ e, ([.ref e0, .ref e1, .ref e2, .ref e3, .ref e4, .ref e5] : List V)[j]? = some (.ref e) ∧ TupK K [.str (memNames.getD (A0w j) ""), .int ((AIn (A0w j) : Nat) : Int)] e := match j, hj with
  | 0, _ => ⟨e0, rfl, h0⟩
  | 1, _ => ⟨e1, rfl, h1⟩
  | 2, _ => ⟨e2, rfl, h2⟩
  | 3, _ => ⟨e3, rfl, h3⟩
  | 4, _ => ⟨e4, rfl, h4⟩
  | 5, _ => ⟨e5, rfl, h5⟩
theorem AVs {j : Nat} (h : j < 6) : AIn (A0w j) < 2 ^ 64 := (by decide +kernel : ∀ j : _root_.Fin 6, AIn (A0w j.1) < 2 ^ 64) ⟨j, h⟩
theorem ACf (T : Txt K mg) : Fn P w K mg base "move_by_number" 1 ["half"] (ADy K fun h => 12 ≤ h / 2048 ∧ h / 2048 < 18) := by
  refine AEw T.ALs AG2 (fun _ _ _ _ _ _ => ln1 (fun _ => rfl)) (fun f cdv A outer s H h Q E hr hh hc k => ?_)
  refine ⟨_, (@AAf _ _ _ _ _ (@ABk _ _ 1 _ _ _ _ AG2.nd rfl (Or.inl (lj ABh 2 rfl)) (@ACz _ _ _ _ _ _ _ AGn (@ABq _ _ _ _ T.c_BY_NUMBER (lj ABh 0 rfl) (nj nms2 0 rfl).1) (@AAl _ _ _ _ _ _ _ _ AMt (@AAl _ _ _ _ _ _ _ _ AEj (pV 0 ABh 1 nms1 5 rfl rfl rfl) (pn 11)) (pn 12)) (fun _ _ => rfl)) rfl (.inl rfl)) (@AAg _ _ _ (@AAw _ _ _ _ (@ADv _ _ _ _ _ (@AAa _ _ _ _ _ (@ACz _ _ _ _ _ _ _ AGn (pV 1 ABh 2 nms2 1 rfl rfl rfl) (pn 0) (fun _ _ => rfl)) (@AAa _ _ _ _ _ (@AAl _ _ _ _ _ _ _ _ ABt (pV 0 ABh 1 nms1 5 rfl rfl rfl) (pn 7)) (@AAa _ _ _ _ _ (@AAl _ _ _ _ _ _ _ _ ABt (@AAl _ _ _ _ _ _ _ _ AEj (pV 0 ABh 1 nms1 5 rfl rfl rfl) (pn 3)) (pn 7)) (@AAa _ _ _ _ _ ACi (@AAa _ _ _ _ _ (@AAl _ _ _ _ _ _ _ _ AOq (@ACz _ _ _ _ _ _ _ AGn (pV 1 ABh 2 nms2 1 rfl rfl rfl) (pn 1) (fun _ _ => rfl)) (@AAl _ _ _ _ _ _ _ _ ABt (@AAl _ _ _ _ _ _ _ _ AEj (pV 0 ABh 1 nms1 5 rfl rfl rfl) (pn 6)) (pn 31))) (@AAa _ _ _ _ _ (@ABq _ _ _ _ T.c_WITH_PLACE (lj ABh 3 rfl) (nj nms1 22 rfl).1) AAi rfl) rfl) rfl) rfl) rfl) rfl))))), ?_⟩
  have ez : ((h / 2048 : Nat) : Int) - ((12 : Nat) : Int) = ((h / 2048 - 12 : Nat) : Int) := (Int.ofNat_sub hc.1).symm
  have l6 := A2b hc.1 hc.2
  refine fun a ha => ?_
  obtain ⟨e0, e1, e2, e3, e4, e5, ha, h0, h1, h2, h3, h4, h5⟩ := ha
  obtain ⟨e, hx, he⟩ := BDf l6 h0 h1 h2 h3 h4 h5
  refine AFw (is_i (is_n (AAc rfl) is_c) is_c) (congrArg V.int ez) _ ?_
  refine ⟨a, _, _, _, rfl, rfl, ha.sq, atN hx, ?_⟩
  refine ret6 k (AQw (j := 0) (AAc rfl) is_c he.sq rfl) (i7 (AAc rfl)) (i7 (is_n (AAc rfl) is_c)) is_c (AIw (AQw (j := 1) (AAc rfl) is_c he.sq rfl) (i31 (is_n (AAc rfl) is_c)) (AVs l6)) ["d", "place"] rfl fun nx => ?_
  rw [AOx hc.1 hc.2]
  rfl
theorem AXt {t : Nat} (h1 : 18 ≤ t) (h2 : t < 20) : (t = 19) = (t % 2 = 1) := by
  rw [eq_iff_iff]
  omega
theorem AHj (T : Txt K mg) : Fn P w K mg base "move_on_stack" 1 ["half"] (ADy K fun h => 18 ≤ h / 2048 ∧ h / 2048 < 20) := by
  refine AEw T.AL7 AHe (fun _ _ _ _ _ _ => ln1 (fun _ => rfl)) (fun f cdv A outer s H h Q E hr hh hc k => ?_)
  refine ⟨_, (@AAf _ _ _ _ _ (@ABk _ _ 1 _ _ _ _ AHe.nd rfl (Or.inl (lj ACa 1 rfl)) (@AGo _ _ _ _ _ _ _ _ (@AFf _ _ _ (@AAl _ _ _ _ _ _ _ _ ABt (pV 0 ACa 0 nms1 5 rfl rfl rfl) (pn 2048)) (fun _ => rfl)) AD2 AD2) rfl (.inl rfl)) (@AAg _ _ _ (@AAw _ _ _ _ (@ADv _ _ _ _ _ (@AAa _ _ _ _ _ (pV 1 ACa 1 nms1 8 rfl rfl rfl) (@AAa _ _ _ _ _ (@AAl _ _ _ _ _ _ _ _ ABt (@AAl _ _ _ _ _ _ _ _ AEj (pV 0 ACa 0 nms1 5 rfl rfl rfl) (pn 8)) (pn 7)) (@AAa _ _ _ _ _ (@AAt _ _ _ _ T.c_SP (lj ACa 2 rfl) (nj nms0 22 rfl).1) (@AAa _ _ _ _ _ ACi (@AAa _ _ _ _ _ (@AAl _ _ _ _ _ _ _ _ AOq (pn 4) (@AAl _ _ _ _ _ _ _ _ ABt (pV 0 ACa 0 nms1 5 rfl rfl rfl) (pn 255))) (@AAa _ _ _ _ _ (@ABq _ _ _ _ T.c_WITH_PLACE (lj ACa 3 rfl) (nj nms1 22 rfl).1) AAi rfl) rfl) rfl) rfl) rfl) rfl))))), ?_⟩
  refine AFw (AU9 (p := h / 2048 % 2 = 1) (ANn (is_n (AAc rfl) is_c) (AFp h 11)) is_c is_c) (ite_str _ _) _ ?_
  refine ret6 k (AAc rfl) (i7 (is_n (AAc rfl) is_c)) is_c is_c (AIw is_c (i255 (AAc rfl)) m4) ["d", "place"] rfl fun nx => ?_
  rw [ARs hc.1 hc.2]
  simp only [AXt hc.1 hc.2]
  by_cases c : h / 2048 % 2 = 1
  · simp only [if_pos c]
    rfl
  · simp only [if_neg c]
    rfl
end
end Chip
namespace Chip
open PySem L2 LX
section
variable {P : Program} {w : World} {K : Frag} {mg : Str → Option Value} {base : Heap}
noncomputable def AUt (h : Nat) : Prop := 22 ≤ h / 2048 ∧ h / 2048 < 24
theorem AX9 (h : Nat) : (((h &&& 15 : Nat) : Int) != 0) = decide (h % 16 ≠ 0) := by rw [AVa, m15]
theorem ALm (T : Txt K mg) : Fn P w K mg base "stack_pointer" 1 ["half"] (ADy K fun h => AUt h ∧ h / 256 % 16 = 0) := by
  refine AEw T.AL8 AG7 (fun _ _ _ _ _ _ => ln1 (fun _ => rfl)) (fun f cdv A outer s H h Q E hr hh hc k => ?_)
  refine ⟨_, (@AAf _ _ _ _ _ (@ABk _ _ 1 _ _ _ _ AG7.nd rfl (Or.inl (lj ACd 1 rfl)) (@AGo _ _ _ _ _ _ _ _ (@AFf _ _ _ (@AAl _ _ _ _ _ _ _ _ ABt (pV 0 ACd 0 nms1 5 rfl rfl rfl) (pn 128)) (fun _ => rfl)) AD2 AD2) rfl (.inl rfl)) (@AAg _ _ _ (@AAw _ _ _ _ (@ADv _ _ _ _ _ (@AAa _ _ _ _ _ (pV 1 ACd 1 nms1 8 rfl rfl rfl) (@AAa _ _ _ _ _ (@AAt _ _ _ _ T.c_SP (lj ACd 2 rfl) (nj nms0 22 rfl).1) (@AAa _ _ _ _ _ (@AAt _ _ _ _ T.c_SP (lj ACd 2 rfl) (nj nms0 22 rfl).1) (@AAa _ _ _ _ _ ACi (@AAa _ _ _ _ _ (@AAl _ _ _ _ _ _ _ _ AOq (pn 4) (@AAl _ _ _ _ _ _ _ _ ABt (pV 0 ACd 0 nms1 5 rfl rfl rfl) (pn 127))) (@AAa _ _ _ _ _ (@ABq _ _ _ _ T.c_OF_TWO (lj ACd 3 rfl) (nj nms1 10 rfl).1) AAi rfl) rfl) rfl) rfl) rfl) rfl))))), ?_⟩
  refine AFw (AU9 (p := h / 128 % 2 = 1) (ANn (is_n (AAc rfl) is_c) (AFp h 7)) is_c is_c) (ite_str _ _) _ ?_
  refine ret6 k (AAc rfl) is_c is_c is_c (AIw is_c (i127 (AAc rfl)) m4) ["d", "second"] rfl fun nx => ?_
  rw [AG9 hc.1.1 hc.1.2, if_pos hc.2]
  show (⟨if (h / 128 % 2 == 1) = true then "sub" else "add", _, _, _, _, _⟩ : Ab) = _
  simp only [AYy]
theorem APx (T : Txt K mg) : Fn P w K mg base "extension" 1 ["half"] (ADy K fun h => AUt h ∧ h / 256 % 16 = 2) := by
  refine AEw T.AS3 APu (fun _ _ _ _ _ _ => ln1 (fun _ => rfl)) (fun f cdv A outer s H h Q E hr hh hc k => ?_)
  refine ⟨_, (@AAg _ _ _ (@AAw _ _ _ _ (@ADv _ _ _ _ _ (@AAa _ _ _ _ _ (@ACz _ _ _ _ _ _ _ AGn (@ABq _ _ _ _ T.c_EXTENSIONS (lj AFm 0 rfl) (nj nms2 2 rfl).1) (@AAl _ _ _ _ _ _ _ _ ABt (@AAl _ _ _ _ _ _ _ _ AEj (pV 0 AFm 1 nms1 5 rfl rfl rfl) (pn 6)) (pn 3)) (fun _ _ => rfl)) (@AAa _ _ _ _ _ (@AAl _ _ _ _ _ _ _ _ ABt (pV 0 AFm 1 nms1 5 rfl rfl rfl) (pn 7)) (@AAa _ _ _ _ _ ACi (@AAa _ _ _ _ _ (@AAl _ _ _ _ _ _ _ _ ABt (@AAl _ _ _ _ _ _ _ _ AEj (pV 0 AFm 1 nms1 5 rfl rfl rfl) (pn 3)) (pn 7)) (@AAa _ _ _ _ _ (pn 0) (@AAa _ _ _ _ _ (@ABq _ _ _ _ T.c_OF_TWO (lj AFm 2 rfl) (nj nms1 10 rfl).1) AAi rfl) rfl) rfl) rfl) rfl) rfl)))), ?_⟩
  refine ret6 k (APp (i3 (is_n (AAc rfl) is_c)) (A5f (L := AUq) (Nat.mod_lt _ (by decide)) rfl)) (i7 (AAc rfl)) is_c (i7 (is_n (AAc rfl) is_c)) is_c ["d", "second"] rfl fun nx => ?_
  rw [AG9 hc.1.1 hc.1.2, hc.2]
  rfl
theorem AX0 {j : Nat} (h : j < 4) : AKc.getD j "" = "none" ↔ j = 2 := (by decide +kernel : ∀ j : _root_.Fin 4, AKc.getD j.1 "" = "none" ↔ j.1 = 2) ⟨j, h⟩
theorem AL3 (T : Txt K mg) : Fn P w K mg base "turned_bytes" 1 ["half"] (ADy K fun h => AUt h ∧ h / 256 % 16 = 10) := by
  refine AEw T.AOe AHx (fun _ _ _ _ _ _ => ln1 (fun _ => rfl)) (fun f cdv A outer s H h Q E hr hh hc k => ?_)
  refine ⟨_, (@AAf _ _ _ _ _ (@ABk _ _ 1 _ _ _ _ AHx.nd rfl (Or.inl (lj ABo 2 rfl)) (@ACz _ _ _ _ _ _ _ AGn (@ABq _ _ _ _ T.c_TURNS (lj ABo 0 rfl) (nj nms2 3 rfl).1) (@AAl _ _ _ _ _ _ _ _ ABt (@AAl _ _ _ _ _ _ _ _ AEj (pV 0 ABo 1 nms1 5 rfl rfl rfl) (pn 6)) (pn 3)) (fun _ _ => rfl)) rfl (.inl rfl)) (@AAf _ _ _ _ _ (@AEn _ _ _ _ _ _ _ _ (@AAy _ _ _ _ _ _ _ _ AEl (pV 1 ABo 2 nms1 8 rfl rfl rfl) AD2 rfl) (@AAg _ _ _ (@AAw _ _ _ _ (@ABq _ _ _ _ T.c_NONE (lj ABo 3 rfl) (nj nms1 4 rfl).1))) ABf) (@AAg _ _ _ (@AAw _ _ _ _ (@ADv _ _ _ _ _ (@AAa _ _ _ _ _ (pV 1 ABo 2 nms1 8 rfl rfl rfl) (@AAa _ _ _ _ _ (@AAl _ _ _ _ _ _ _ _ ABt (pV 0 ABo 1 nms1 5 rfl rfl rfl) (pn 7)) (@AAa _ _ _ _ _ ACi (@AAa _ _ _ _ _ (@AAl _ _ _ _ _ _ _ _ ABt (@AAl _ _ _ _ _ _ _ _ AEj (pV 0 ABo 1 nms1 5 rfl rfl rfl) (pn 3)) (pn 7)) (@AAa _ _ _ _ _ (pn 0) (@AAa _ _ _ _ _ (@ABq _ _ _ _ T.c_OF_TWO (lj ABo 4 rfl) (nj nms1 10 rfl).1) AAi rfl) rfl) rfl) rfl) rfl) rfl)))))), ?_⟩
  have l4 : h / 64 % 4 < 4 := Nat.mod_lt _ (by decide)
  refine APp (j := h / 64 % 4) (by exact i3 (is_n (AAc rfl) is_c)) (A5f (L := AKc) l4 rfl) _ ?_
  refine ifsP (p := h / 64 % 4 = 2) (ABg (AT9 (AAc rfl) is_c (AX0 l4))) (fun c => ?_) (fun c => ?_)
  · refine AGd k fun nx => ?_
    rw [AG9 hc.1.1 hc.1.2, hc.2]
    exact if_pos c
  · refine ret6 k (AAc rfl) (i7 (AAc rfl)) is_c (i7 (is_n (AAc rfl) is_c)) is_c ["d", "second"] rfl fun nx => ?_
    rw [AG9 hc.1.1 hc.1.2, hc.2]
    exact congrArg abOf (if_neg c)
theorem A7o (T : Txt K mg) : Fn P w K mg base "bkpt" 1 ["half"] (ADy K fun h => AUt h ∧ h / 256 % 16 = 14) := by
  refine AEw T.BDs A63 (fun _ _ _ _ _ _ => ln1 (fun _ => rfl)) (fun f cdv A outer s H h Q E hr hh hc k => ?_)
  refine ⟨_, (@AAg _ _ _ (@AAw _ _ _ _ (@ADv _ _ _ _ _ (@AAa _ _ _ _ _ AD2 (@AAa _ _ _ _ _ ACi (@AAa _ _ _ _ _ ACi (@AAa _ _ _ _ _ ACi (@AAa _ _ _ _ _ (@AAl _ _ _ _ _ _ _ _ ABt (pV 0 A1y 0 nms1 5 rfl rfl rfl) (pn 255)) (@AAa _ _ _ _ _ (@ABq _ _ _ _ T.c_OF_ONE (lj A1y 1 rfl) (nj nms1 21 rfl).1) AAi rfl) rfl) rfl) rfl) rfl) rfl)))), ?_⟩
  refine ret6 k is_c is_c is_c is_c (i255 (AAc rfl)) ["second"] rfl fun nx => ?_
  rw [AG9 hc.1.1 hc.1.2, hc.2]
  rfl
theorem A9s (T : Txt K mg) : Fn P w K mg base "hint" 1 ["half"] (ADy K fun h => AUt h ∧ h / 256 % 16 = 15) := by
  refine AEw T.BDt A8n (fun _ _ _ _ _ _ => ln1 (fun _ => rfl)) (fun f cdv A outer s H h Q E hr hh hc k => ?_)
  refine ⟨_, (@AAf _ _ _ _ _ (@AEn _ _ _ _ _ _ _ _ (@AFf _ _ _ (@AAl _ _ _ _ _ _ _ _ ABt (pV 0 AVl 0 nms1 5 rfl rfl rfl) (pn 15)) (fun _ => rfl)) (@AAg _ _ _ (@AAw _ _ _ _ (@ABq _ _ _ _ T.c_NONE (lj AVl 1 rfl) (nj nms1 4 rfl).1))) ABf) (@AAg _ _ _ (@AAw _ _ _ _ (@ADv _ _ _ _ _ (@AAa _ _ _ _ _ AD2 (@AAa _ _ _ _ _ ACi (@AAa _ _ _ _ _ ACi (@AAa _ _ _ _ _ ACi (@AAa _ _ _ _ _ (pn 0) (@AAa _ _ _ _ _ (@ABq _ _ _ _ T.c_ALONE (lj AVl 2 rfl) (nj nms2 9 rfl).1) AAi rfl) rfl) rfl) rfl) rfl) rfl))))), ?_⟩
  refine ifsP (p := h % 16 ≠ 0) (ANn (is_n (AAc rfl) is_c) (AX9 h)) (fun c => ?_) (fun c => ?_)
  · refine AGd k fun nx => ?_
    rw [AG9 hc.1.1 hc.1.2, hc.2]
    exact if_neg (c := (15 : Nat) = 15 ∧ h % 16 = 0) fun z => c z.2
  · refine ret6 k is_c is_c is_c is_c is_c [] rfl fun nx => ?_
    rw [AG9 hc.1.1 hc.1.2, hc.2]
    exact congrArg abOf (if_pos (c := (15 : Nat) = 15 ∧ h % 16 = 0) ⟨rfl, Classical.not_not.mp c⟩)
theorem AMi (p : Nat → Bool) (i : Nat) : (List.range (i + 1)).filter p = (List.range i).filter p ++ (if p i = true then [i] else []) := by
  rw [List.range_succ, List.filter_append]
  congr 1
  cases e : p i <;> simp [e]
theorem AOo (h : Nat) : Sd12.listOf (h % 256) = Sd12.listOf h := by
  unfold Sd12.listOf
  apply List.filter_congr
  intro i hi
  rw [List.mem_range] at hi
  have tb : ∀ x, Sd12.bit x i = x.testBit i := fun x => by
    rw [Nat.testBit_eq_decide_div_mod_eq]
    rfl
  rw [tb, tb, show (256 : Nat) = 2 ^ 8 from rfl, Nat.testBit_mod_two_pow, decide_eq_true hi, Bool.true_and]
noncomputable def AL6 (h nn : Nat) : List Nat := Sd12.listOf h ++ if h / 256 % 2 = 1 then [nn] else []
noncomputable def ARu (K : Frag) : Sp := fun vs H Q _ => ∃ (h nn : Nat) (x : V), vs = [vN h, x] ∧ h < 65536 ∧ (h / 256 % 2 = 1 → x = vN nn) ∧ ∀ p H', Same H H' → SqT K H' p ((AL6 h nn).map vN) → Q (.ref p) H'
theorem APb (p : Nat → Bool) (n : Nat) : ((List.range n).filter p).length ≤ n := by
  have := List.length_filter_le p (List.range n)
  rw [List.length_range] at this
  exact this
theorem AOv {n : Nat} (h : n ≤ 100) : n < sizeLine := Nat.lt_of_le_of_lt h (by decide)
theorem AKb (T : Txt K mg) : Fn P w K mg base "listed" 1 ["half", "ninth"] (ARu K) := by
  refine T.A5g.fn AMp (fun _ _ _ _ _ _ => ln2 (fun _ _ => rfl)) (fun vs H Q E h => ?_) (fun f cdv A outer s H vs Q E hr h => ?_)
  · obtain ⟨h, nn, x, rfl, _⟩ := h
    rfl
  obtain ⟨h, nn, x, rfl, hh, hx, k⟩ := h
  refine ⟨_, (@AAf _ _ _ _ _ (@A29 _ 2 _ _ _ _ _ _ _ [("r", 3)] _ _ _ _ _ _ rfl AMp.nd rfl rfl (A7i rfl rfl rfl (by decide +kernel)) (@AXn _ _ _ _ _ _ (lj AHl 0 rfl) T.n_range (@AAa _ _ _ _ _ (pn 8) AAi rfl) rfl) AU4 (fun _ _ _ _ _ => AKf (i := 3) AMp.nd rfl (Or.inl rfl) (by first | exact .inl rfl | exact .inr rfl)) (fun _ _ _ _ _ => (@A9c _ _ _ (@AXj _ K _ _ rfl (@AAl _ _ _ _ _ _ _ _ ABt (@AAl _ _ _ _ _ _ _ _ AEj (pv 0 rfl (by first | exact Or.inl rfl | exact Or.inr (Or.inl rfl) | exact Or.inr (Or.inr rfl)) rfl rfl) (pv 3 rfl (by first | exact Or.inl rfl | exact Or.inr (Or.inl rfl) | exact Or.inr (Or.inr rfl)) rfl rfl)) (pn 1)) (fun _ => rfl)))) (fun _ _ _ _ _ => (pv 3 rfl (by first | exact Or.inl rfl | exact Or.inr (Or.inl rfl) | exact Or.inr (Or.inr rfl)) rfl rfl)) (by intro _; rfl)) (@AAf _ _ _ _ _ (@AEn _ _ _ _ _ _ _ _ (@AFf _ _ _ (@AAl _ _ _ _ _ _ _ _ ABt (@pvx _ _ _ 0 (.inr (.inl (lj AHl 1 rfl))) (nj nms1 5 rfl) rfl) (pn 256)) (fun _ => rfl)) (@AAg _ _ _ (@ACe _ _ _ _ (@BAs _ _ _ _ _ _ _ _ _ _ _ _ PySem.F.plainAttrs_list PySem.F.slot_list_append PySem.F.type_list_append AN9 (pV 2 AHl 2 nms2 4 rfl rfl rfl) (@AAa _ _ _ _ _ (pV 1 AHl 3 nms2 5 rfl rfl rfl) AAi rfl) rfl rfl rfl rfl rfl) rfl)) ABf) (@AAg _ _ _ (@AAw _ _ _ _ (@AY7 _ _ _ _ _ _ _ _ _ APa (lj AHl 4 rfl) T.n_tuple A3v (@AAa _ _ _ _ _ (pV 2 AHl 2 nms2 4 rfl rfl rfl) AAi rfl) A4v (nj nms0 2 rfl).1 rfl rfl))))), ?_⟩
  refine ⟨((8 : Nat) : Int), rfl, by decide, by decide, fun D hD => ?_⟩
  refine A3f (n := ((8 : Nat) : Int).toNat) (fun i H' => H' D = some (.lst (((List.range i).filter fun j => Sd12.bit h j).map vN)) ∧ Same H H') ⟨AAv, ABm hD⟩ (fun i H' hi hP => ?_) (fun H' hP => ?_)
  · have hi : i < 8 := hi
    obtain ⟨h1, h2⟩ := hP
    have e1 : (((h / 2 ^ i &&& 1 : Nat) : Int) != 0) = Sd12.bit h i := by
      rw [AVa, m1]
      unfold Sd12.bit
      rcases Nat.mod_two_eq_zero_or_one (h / 2 ^ i) with e | e <;> rw [e] <;> rfl
    have ei : (0 : Int) + ((i : Nat) : Int) = ((i : Nat) : Int) := Int.zero_add _
    rw [ei]
    refine ⟨rfl, ⟨_, rfl, _, rfl, _, _, rfl, rfl, _, _, rfl, rfl, _, e1.symm, ?_⟩⟩
    refine ite2 (fun c => ?_) (fun c => ?_)
    · refine ⟨_, rfl, _, h1, ?_, AAv.trans ?_, fun b o e => ?_⟩
      · rw [List.length_map]
        exact AOv (Nat.le_trans (APb _ _) (Nat.le_trans (Nat.le_of_lt hi) (by decide)))
      · rw [AMi, if_pos c, List.map_append]
        rfl
      · have z := h2 b o e
        rw [ABi (ACb e hD)]
        exact z
    · refine ⟨h1.trans ?_, h2⟩
      rw [AMi, if_neg c, List.append_nil]
  · have hP : H' D = some (.lst (((List.range 8).filter fun j => Sd12.bit h j).map vN)) ∧ Same H H' := hP
    obtain ⟨h1, h2⟩ := hP
    have e1 : (((h &&& 256 : Nat) : Int) != 0) = decide (h / 256 % 2 = 1) := AFp h 8
    refine ⟨_, rfl, _, _, rfl, rfl, _, e1.symm, ?_⟩
    refine ite2 (fun c => ?_) (fun c => ?_)
    · rw [decide_eq_true_eq] at c
      obtain rfl := hx c
      refine ⟨_, rfl, .inl ⟨rfl, _, .of h1⟩, _, rfl, _, _, _, rfl, rfl, h1, ?_, ?_⟩
      · rw [List.length_map]
        exact AOv (Nat.le_trans (APb _ _) (by decide))
      · refine ⟨_, rfl, _, _, rfl, .inl ⟨.of AAv, fun l hl => ?_⟩⟩
        have sD : Same H (upd H' D (.lst (((List.range 8).filter fun j => Sd12.bit h j).map vN ++ [vN nn]))) := fun b o e => by
          rw [ABi (ACb e hD)]
          exact h2 b o e
        refine k l _ (sD.trans (ABm hl)) (.of ?_)
        rw [AAv]
        unfold AL6 Sd12.listOf
        rw [if_pos c, List.map_append]
        rfl
    · rw [decide_eq_true_eq] at c
      refine ⟨_, rfl, _, _, rfl, .inl ⟨.of h1, fun l hl => ?_⟩⟩
      refine k l _ (h2.trans (ABm hl)) (.of ?_)
      rw [AAv]
      unfold AL6 Sd12.listOf
      rw [if_neg c, List.append_nil]
end
end Chip
namespace Chip
open PySem L2 LX
section
variable {P : Program} {w : World} {K : Frag} {mg : Str → Option Value} {base : Heap}
theorem A1x {H : Hp} {p a q : Addr} {b : Ab} {nm : Str} {d n m : V} {l : List Nat} {ops : List Str} {xs : List V} (hp : H p = some (.tup [.str nm, d, n, m, .ref q, .ref a])) (hq : SqT K H q (l.map vN)) (ha : TupK K xs a) (ho : xs = ops.map V.str) (e : b = ⟨nm, d, n, m, .inr l, ops⟩) : AM6 K H p b := by
  subst e ho
  exact ⟨_, a, .of hp, ha.sq, q, rfl, hq⟩
theorem retL {σ : L2.St} {H : Hp} {h hl nn : Nat} {Q : VK} {t0 t1 t2 t3 : TE} {ta : TA} {nm : Str} {d n m x : V} {xs : List V} (k : KD K H h Q) (h0 : Is t0 σ H (.str nm)) (h1 : Is t1 σ H d) (h2 : Is t2 σ H n) (h3 : Is t3 σ H m) (h4 : IsA ta σ H [vN hl, x]) (hh : hl < 65536) (hx : hl / 256 % 2 = 1 → x = vN nn)
    (ops : List Str) (ho : xs = ops.map V.str) (e : ∀ nx, abOf (Sd12.decode h nx) = ⟨nm, d, n, m, .inr (AL6 hl nn), ops⟩) :
    tTup (ABx t0 (ABx t1 (ABx t2 (ABx t3 (ABx (tFn (ARu K) ta) (ABx (tGr (TupK K xs)) tNil)))))) σ H Q :=
  h0 _ (h1 _ (h2 _ (h3 _ (h4 _ ⟨hl, nn, x, rfl, hh, hx, fun q H1 s1 hq a ha => ⟨six, fun p hp => k p _ (s1.trans (ABm hp)) fun nx => A1x AAv (SqT.same (ABm hp) hq) ha ho (e nx)⟩⟩))))
theorem par {h j : Nat} (e : h / 256 % 16 = j) : h / 256 % 2 = j % 2 := by rw [← e, Nat.mod_mod_of_dvd _ (by decide)]
theorem AVc {h : Nat} (ho : AUt h) (c : h / 256 % 16 = 4 ∨ h / 256 % 16 = 5) (nx : Nat) : Sd12.decode h nx = if h % 512 = 0 then none else some (.push (AL6 h 14)) := by
  rw [AG9 ho.1 ho.2]
  unfold AL6
  rw [AOo]
  rcases c with c | c
  · rw [par c, c]
    rfl
  · rw [par c, c]
    rfl
theorem A1e {h : Nat} (ho : AUt h) (c : h / 256 % 16 = 12 ∨ h / 256 % 16 = 13) (nx : Nat) : Sd12.decode h nx = if h % 512 = 0 then none else some (.pop (AL6 h 15)) := by
  rw [AG9 ho.1 ho.2]
  unfold AL6
  rw [AOo]
  rcases c with c | c
  · rw [par c, c]
    rfl
  · rw [par c, c]
    rfl
theorem i511 {σ : L2.St} {H : Hp} {ta : TE} {x : Nat} (ha : Is ta σ H (vN x)) : Is (tOp (rN fun a b => a &&& b) ta (tC (.int ((511 : Nat) : Int)))) σ H (vN (x % 512)) := AFw (is_n ha is_c) (congrArg vN (m511 x))
theorem BEl {σ : L2.St} {H : Hp} {ta : TE} {x : Nat} (ha : Is ta σ H (vN x)) : Is (tOp (rN fun a b => a &&& b) ta (tC (.int ((2047 : Nat) : Int)))) σ H (vN (x % 2048)) := AFw (is_n ha is_c) (congrArg vN (m2047 x))
theorem ALn (T : Txt K mg) : Fn P w K mg base "push_list" 2 ["half"] (ADy K fun h => AUt h ∧ (h / 256 % 16 = 4 ∨ h / 256 % 16 = 5)) := by
  have G_listed := AKb (P := P) (w := w) (base := base) T
  refine AEw T.AS4 AQd (fun _ _ _ _ _ _ => ln1 (fun _ => rfl)) (fun f cdv A outer s H h Q E hr hh hc k => ?_)
  refine ⟨_, (@AAf _ _ _ _ _ (@AEn _ _ _ _ _ _ _ _ (@AAy _ _ _ _ _ _ _ _ AEl (@AAl _ _ _ _ _ _ _ _ ABt (pV 0 ADk 0 nms1 5 rfl rfl rfl) (pn 511)) (pn 0) rfl) (@AAg _ _ _ (@AAw _ _ _ _ (@ABq _ _ _ _ T.c_NONE (lj ADk 1 rfl) (nj nms1 4 rfl).1))) ABf) (@AAg _ _ _ (@AAw _ _ _ _ (@ADv _ _ _ _ _ (@AAa _ _ _ _ _ AD2 (@AAa _ _ _ _ _ ACi (@AAa _ _ _ _ _ (@AAt _ _ _ _ T.c_SP (lj ADk 2 rfl) (nj nms0 22 rfl).1) (@AAa _ _ _ _ _ ACi (@AAa _ _ _ _ _ (@ABy _ _ _ _ _ _ _ _ _ _ G_listed (hmo hr) (lj ADk 3 rfl) (@AAa _ _ _ _ _ (pV 0 ADk 0 nms1 5 rfl rfl rfl) (@AAa _ _ _ _ _ (@AAt _ _ _ _ T.c_LR (lj ADk 4 rfl) (nj nms2 6 rfl).1) AAi rfl) rfl) (nj nms2 7 rfl).1 rfl rfl) (@AAa _ _ _ _ _ (@ABq _ _ _ _ T.c_WITH_LIST (lj ADk 5 rfl) (nj nms2 8 rfl).1) AAi rfl) rfl) rfl) rfl) rfl) rfl))))), ?_⟩
  refine ifsP (p := h % 512 = 0) (ABg (ADa (i511 (AAc rfl)) is_c)) (fun c => ?_) (fun c => ?_)
  · exact AGd k fun nx => (AVc hc.1 hc.2 nx).trans (if_pos c)
  · exact retL k is_c is_c is_c is_c (AAe (AAc rfl) (AAe is_c AAs)) hh (fun _ => rfl) ["list"] rfl fun nx => congrArg abOf ((AVc hc.1 hc.2 nx).trans (if_neg c))
theorem AMk (T : Txt K mg) : Fn P w K mg base "pop_list" 2 ["half"] (ADy K fun h => AUt h ∧ (h / 256 % 16 = 12 ∨ h / 256 % 16 = 13)) := by
  have G_listed := AKb (P := P) (w := w) (base := base) T
  refine AEw T.AW8 ASj (fun _ _ _ _ _ _ => ln1 (fun _ => rfl)) (fun f cdv A outer s H h Q E hr hh hc k => ?_)
  refine ⟨_, (@AAf _ _ _ _ _ (@AEn _ _ _ _ _ _ _ _ (@AAy _ _ _ _ _ _ _ _ AEl (@AAl _ _ _ _ _ _ _ _ ABt (pV 0 AEd 0 nms1 5 rfl rfl rfl) (pn 511)) (pn 0) rfl) (@AAg _ _ _ (@AAw _ _ _ _ (@ABq _ _ _ _ T.c_NONE (lj AEd 1 rfl) (nj nms1 4 rfl).1))) ABf) (@AAg _ _ _ (@AAw _ _ _ _ (@ADv _ _ _ _ _ (@AAa _ _ _ _ _ AD2 (@AAa _ _ _ _ _ ACi (@AAa _ _ _ _ _ (@AAt _ _ _ _ T.c_SP (lj AEd 2 rfl) (nj nms0 22 rfl).1) (@AAa _ _ _ _ _ ACi (@AAa _ _ _ _ _ (@ABy _ _ _ _ _ _ _ _ _ _ G_listed (hmo hr) (lj AEd 3 rfl) (@AAa _ _ _ _ _ (pV 0 AEd 0 nms1 5 rfl rfl rfl) (@AAa _ _ _ _ _ (@AAt _ _ _ _ T.c_PC (lj AEd 4 rfl) (nj nms0 9 rfl).1) AAi rfl) rfl) (nj nms2 7 rfl).1 rfl rfl) (@AAa _ _ _ _ _ (@ABq _ _ _ _ T.c_WITH_LIST (lj AEd 5 rfl) (nj nms2 8 rfl).1) AAi rfl) rfl) rfl) rfl) rfl) rfl))))), ?_⟩
  refine ifsP (p := h % 512 = 0) (ABg (ADa (i511 (AAc rfl)) is_c)) (fun c => ?_) (fun c => ?_)
  · exact AGd k fun nx => (A1e hc.1 hc.2 nx).trans (if_pos c)
  · exact retL k is_c is_c is_c is_c (AAe (AAc rfl) (AAe is_c AAs)) hh (fun _ => rfl) ["list"] rfl fun nx => congrArg abOf ((A1e hc.1 hc.2 nx).trans (if_neg c))
theorem A4t (h : Nat) : ¬ h % 256 / 256 % 2 = 1 := by
  rw [Nat.div_eq_of_lt (Nat.mod_lt _ (by decide))]
  decide
theorem AU1 (h : Nat) : AL6 (h % 256) 0 = Sd12.listOf (h % 256) := by
  unfold AL6
  rw [if_neg (A4t h), List.append_nil]
theorem A8a (h : Nat) : h % 256 < 65536 := Nat.lt_trans (Nat.mod_lt _ (by decide)) (by decide)
theorem AUx (x : Nat) (hx : x < 256) : Sd12.listOf x = [] ↔ x = 0 := by
  have all : ∀ j : _root_.Fin 256, Sd12.listOf j.1 = [] ↔ j.1 = 0 := by decide +kernel
  exact all ⟨x, hx⟩
theorem AN7 (l : List Nat) : (l.map vN).all AZw = true := by
  induction l with
  | nil => rfl
  | cons a l ih =>
    rw [List.map_cons, List.all_cons, ih]
    rfl
theorem AQg (n : Nat) (l : List Nat) : inV (vN n) (l.map vN) = l.contains n := by
  induction l with
  | nil => rfl
  | cons a l ih =>
    rw [List.contains_cons, ← ih]
    show (eqV (vN a) (vN n) || _) = _
    congr 1
    show ((a : Int) == (n : Int)) = (n == a)
    rw [Bool.eq_iff_iff]
    simp only [beq_iff_eq]
    omega
theorem AQ3 (T : Txt K mg) : Fn P w K mg base "load_list" 2 ["half"] (ADy K fun h => h / 2048 = 25) := by
  have G_listed := AKb (P := P) (w := w) (base := base) T
  refine AEw T.AS5 AQt (fun _ _ _ _ _ _ => ln1 (fun _ => rfl)) (fun f cdv A outer s H h Q E hr hh hc k => ?_)
  refine ⟨_, (@AAf _ _ _ _ _ (@AEn _ _ _ _ _ _ _ _ (@AAy _ _ _ _ _ _ _ _ AEl (@AAl _ _ _ _ _ _ _ _ ABt (pV 0 AD7 0 nms1 5 rfl rfl rfl) (pn 255)) (pn 0) rfl) (@AAg _ _ _ (@AAw _ _ _ _ (@ABq _ _ _ _ T.c_NONE (lj AD7 1 rfl) (nj nms1 4 rfl).1))) ABf) (@AAg _ _ _ (@AAw _ _ _ _ (@ADv _ _ _ _ _ (@AAa _ _ _ _ _ AD2 (@AAa _ _ _ _ _ ACi (@AAa _ _ _ _ _ (@AAl _ _ _ _ _ _ _ _ ABt (@AAl _ _ _ _ _ _ _ _ AEj (pV 0 AD7 0 nms1 5 rfl rfl rfl) (pn 8)) (pn 7)) (@AAa _ _ _ _ _ ACi (@AAa _ _ _ _ _ (@ABy _ _ _ _ _ _ _ _ _ _ G_listed (hmo hr) (lj AD7 2 rfl) (@AAa _ _ _ _ _ (@AAl _ _ _ _ _ _ _ _ ABt (pV 0 AD7 0 nms1 5 rfl rfl rfl) (pn 255)) (@AAa _ _ _ _ _ ACi AAi rfl) rfl) (nj nms2 7 rfl).1 rfl rfl) (@AAa _ _ _ _ _ (@ABq _ _ _ _ T.c_WITH_BASE_AND_LIST (lj AD7 3 rfl) (nj nms2 11 rfl).1) AAi rfl) rfl) rfl) rfl) rfl) rfl))))), ?_⟩
  have en := AUx (h % 256) (Nat.mod_lt _ (by decide))
  have h1 : 24 ≤ h / 2048 := by rw [hc]; decide
  have h2 : h / 2048 < 26 := by rw [hc]; decide
  refine ifsP (p := h % 256 = 0) (ABg (ADa (i255 (AAc rfl)) is_c)) (fun c => ?_) (fun c => ?_)
  · exact AGd k fun nx => (AK5 h1 h2).trans (if_pos (.inl (en.mpr c)))
  · refine retL (hl := h % 256) (nn := 0) k is_c is_c (i7 (is_n (AAc rfl) is_c)) is_c (AAe (i255 (AAc rfl)) (AAe is_c AAs)) (A8a h) (fun z => absurd z (A4t h)) ["base", "list"] rfl fun nx => ?_
    rw [AK5 h1 h2, if_neg (fun z => z.elim (fun z => c (en.mp z)) fun z => absurd (hc.symm.trans z.1) (by decide)), hc, AU1]
    rfl
theorem AO3 (T : Txt K mg) : Fn P w K mg base "store_list" 2 ["half"] (ADy K fun h => h / 2048 = 24) := by
  have G_listed := AKb (P := P) (w := w) (base := base) T
  refine AEw T.AQ6 AG6 (fun _ _ _ _ _ _ => ln1 (fun _ => rfl)) (fun f cdv A outer s H h Q E hr hh hc k => ?_)
  have b1 : 24 ≤ h / 2048 := by rw [hc]; decide
  have b2 : h / 2048 < 26 := by rw [hc]; decide
  refine ⟨_, (@AAf _ _ _ _ _ (@ABk _ _ 1 _ _ _ _ AG6.nd rfl (Or.inl (lj ABc 1 rfl)) (@AAl _ _ _ _ _ _ _ _ ABt (@AAl _ _ _ _ _ _ _ _ AEj (pV 0 ABc 0 nms1 5 rfl rfl rfl) (pn 8)) (pn 7)) rfl (.inl rfl)) (@AAf _ _ _ _ _ (@ABk _ _ 2 _ _ _ _ AG6.nd rfl (Or.inl (lj ABc 3 rfl)) (@ABy _ _ _ _ _ _ _ _ _ _ G_listed (hmo hr) (lj ABc 2 rfl) (@AAa _ _ _ _ _ (@AAl _ _ _ _ _ _ _ _ ABt (pV 0 ABc 0 nms1 5 rfl rfl rfl) (pn 255)) (@AAa _ _ _ _ _ ACi AAi rfl) rfl) (nj nms2 7 rfl).1 rfl rfl) rfl (.inl rfl)) (@AAf _ _ _ _ _ (@AEn _ _ _ _ _ _ _ _ (@PW.pt _ _ _ (@A56 _ _ _ _ _ _ _ (@AAy _ _ _ _ _ _ _ _ AEl (@AH2 _ _ _ _ _ _ _ _ _ AD8 (lj ABc 4 rfl) T.n_len PySem.boot_len (@AAa _ _ _ _ _ (pV 2 ABc 3 nms2 4 rfl rfl rfl) AAi rfl) AR4 (nj nms0 0 rfl).1 rfl rfl) (pn 0) rfl) (@AU0 _ _ _ _ (@PW.pt _ _ _ (@AOs _ _ _ _ _ _ _ (@AAy _ _ _ _ _ _ _ _ AR2 (pV 1 ABc 1 nms1 12 rfl rfl rfl) (pV 2 ABc 3 nms2 4 rfl rfl rfl) rfl) (@AKg _ _ _ _ (@AAy _ _ _ _ _ _ _ _ A54 (pV 1 ABc 1 nms1 12 rfl rfl rfl) (@ACz _ _ _ _ _ _ _ AGn (pV 2 ABc 3 nms2 4 rfl rfl rfl) (pn 0) (fun _ _ => rfl)) rfl))))))) (@AAg _ _ _ (@AAw _ _ _ _ (@ABq _ _ _ _ T.c_NONE (lj ABc 5 rfl) (nj nms1 4 rfl).1))) ABf) (@AAg _ _ _ (@AAw _ _ _ _ (@ADv _ _ _ _ _ (@AAa _ _ _ _ _ AD2 (@AAa _ _ _ _ _ ACi (@AAa _ _ _ _ _ (pV 1 ABc 1 nms1 12 rfl rfl rfl) (@AAa _ _ _ _ _ ACi (@AAa _ _ _ _ _ (pV 2 ABc 3 nms2 4 rfl rfl rfl) (@AAa _ _ _ _ _ (@ABq _ _ _ _ T.c_WITH_BASE_AND_LIST (lj ABc 6 rfl) (nj nms2 11 rfl).1) AAi rfl) rfl) rfl) rfl) rfl) rfl))))))), ?_⟩
  refine i7 (is_n (AAc rfl) is_c) _ ?_
  refine AJv (AAe (i255 (AAc rfl)) (AAe is_c AAs)) ⟨h % 256, 0, _, rfl, A8a h, fun z => absurd z (A4t h), fun q H1 s1 hq => ?_⟩
  rw [AU1] at hq
  generalize el : Sd12.listOf (h % 256) = l at hq
  dsimp only [A1t]
  show tSeq (tIfS _ _ _) _ _ _ _
  refine ifs (b := decide (l.length = 0) || (l.contains (h / 256 % 8) && decide (h / 256 % 8 ≠ l.headD 0))) (p_orc (fun Q q' => ⟨_, rfl, _, _, rfl, .inr hq, rfl, _, ?_, q'⟩) fun z => BBz (fun Q q' => ⟨_, rfl, _, rfl, _, _, rfl, .inr hq, rfl, AN7 l, _, ?_, q'⟩) fun z2 => (fun Q q' => ⟨_, rfl, _, rfl, _, _, _, _, rfl, rfl, hq, atN (i := 0) (v := vN (l.headD 0)) ?_, rfl, _, ?_, q'⟩)) ?_
  · rw [List.length_map]
    exact bN l.length 0
  · show V.bl (inV (vN (h / 256 % 8)) (l.map vN)) = _
    rw [AQg]
  · cases l with
    | nil => cases z
    | cons x r => rfl
  · show V.bl (!decide (vN (h / 256 % 8) = vN (l.headD 0))) = _
    rw [show decide (vN (h / 256 % 8) = vN (l.headD 0)) = decide (h / 256 % 8 = l.headD 0) from A2d _ _, ← decide_not]
  · refine ite2 (fun c1 => ?_) (fun c1 => ?_)
    · refine fun a' ha' => k a' _ s1 fun nx => ?_
      have c2 : l = [] ∨ (h / 2048 = 24 ∧ l.contains (h / 256 % 8) = true ∧ l.head? ≠ some (h / 256 % 8)) := by
        rw [Bool.or_eq_true, Bool.and_eq_true, decide_eq_true_eq, decide_eq_true_eq] at c1
        rcases c1 with c | ⟨c, d⟩
        · exact .inl (List.length_eq_zero_iff.mp c)
        · refine .inr ⟨hc, c, ?_⟩
          cases l with
          | nil => cases c
          | cons x r =>
            intro e
            exact d (Option.some.inj e).symm
      rw [AK5 b1 b2, el, if_pos c2]
      exact ARk ha'
    · have c2 : ¬ (l = [] ∨ (h / 2048 = 24 ∧ l.contains (h / 256 % 8) = true ∧ l.head? ≠ some (h / 256 % 8))) := by
        intro z
        apply c1
        rw [Bool.or_eq_true, Bool.and_eq_true, decide_eq_true_eq, decide_eq_true_eq]
        rcases z with z | ⟨_, z, z2⟩
        · exact .inl (by rw [z]; rfl)
        · refine .inr ⟨z, ?_⟩
          cases l with
          | nil => cases z
          | cons x r =>
            intro e
            exact z2 (congrArg some e.symm)
      refine ⟨_, rfl, _, rfl, fun a ha => ⟨six, fun p hp => ?_⟩⟩
      refine k p _ (s1.trans (ABm hp)) fun nx => A1x AAv (SqT.same (ABm hp) hq) ha (ops := ["base", "list"]) rfl ?_
      rw [AK5 b1 b2, el, if_neg c2, hc]
      rfl
theorem BCj {X Y v s : Nat} (h : X + 2 * Y = v + s) : (X : Int) - (s : Int) = (v : Int) - 2 * (Y : Int) := by omega
theorem A6u (v s : Nat) : ((v ^^^ s : Nat) : Int) - (s : Int) = (v : Int) - 2 * ((v &&& s : Nat) : Int) := BCj (AUj v v s (Nat.le_refl _))
noncomputable def AKi : Sp := fun vs H Q _ => ∃ v s : Nat, vs = [vN v, vN s] ∧ Q (.int ((v : Int) - 2 * ((v &&& s : Nat) : Int))) H
theorem ACu (T : Txt K mg) : Fn P w K mg base "with_sign" 1 ["value", "sign_bit"] AKi := by
  refine T.AS1.fn AQy (fun _ _ _ _ _ _ => ln2 (fun _ _ => rfl)) (fun vs H Q E h => ?_) (fun f cdv A outer s H vs Q E hr h => ?_)
  · obtain ⟨v, s, rfl, _⟩ := h
    rfl
  obtain ⟨v, s', rfl, k⟩ := h
  refine ⟨_, (@AAg _ _ _ (@AAw _ _ _ _ (@AAl _ _ _ _ _ _ _ _ AMt (@AAl _ _ _ _ _ _ _ _ ATe (pV 0 AH5 0 nms0 21 rfl rfl rfl) (pV 1 AH5 1 nms1 3 rfl rfl rfl)) (pV 1 AH5 1 nms1 3 rfl rfl rfl)))), ?_⟩
  refine is_i (is_n (AAc rfl) (AAc rfl)) (AAc rfl) _ ?_
  show Q (.int (((v ^^^ s' : Nat) : Int) - (s' : Int))) H
  rw [A6u]
  exact k
theorem A3s (j v : Nat) (hv : v < 2 ^ (j + 1)) : 2 * ((v : Int) - 2 * ((v &&& 2 ^ j : Nat) : Int)) = Sd12.offset (j + 1) v := by
  rw [AMf]
  unfold Sd12.offset Sd12.bit
  have e : j + 1 - 1 = j := rfl
  rw [e, Int.pow_succ]
  have hp : ((2 : Int) ^ j) = ((2 ^ j : Nat) : Int) := by simp
  rw [hp]
  generalize 2 ^ j = q
  rcases Nat.mod_two_eq_zero_or_one (v / q) with z | z
  · rw [z, if_neg (by decide)]
    omega
  · rw [z, if_pos (by decide)]
    omega
theorem A8v {σ : L2.St} {H : Hp} {ta : TA} {v q : Nat} (h : IsA ta σ H [vN v, vN q]) : Is (tFn AKi ta) σ H (.int ((v : Int) - 2 * ((v &&& q : Nat) : Int))) := APf h fun _ z => ⟨v, q, rfl, z⟩
theorem mul2 {z : Int} : CMul ((2 : Nat) : Int) z := .inl ⟨by decide, by decide⟩
theorem AK1 (T : Txt K mg) : Fn P w K mg base "branch_if" 2 ["half"] (ADy K fun h => 26 ≤ h / 2048 ∧ h / 2048 < 28) := by
  have G_with_sign := ACu (P := P) (w := w) (base := base) T
  refine AEw T.AS6 AKn (fun _ _ _ _ _ _ => ln1 (fun _ => rfl)) (fun f cdv A outer s H h Q E hr hh hc k => ?_)
  refine ⟨_, (@AAf _ _ _ _ _ (@ABk _ _ 1 _ _ _ _ AKn.nd rfl (Or.inl (lj AB4 1 rfl)) (@AAl _ _ _ _ _ _ _ _ ABt (@AAl _ _ _ _ _ _ _ _ AEj (pV 0 AB4 0 nms1 5 rfl rfl rfl) (pn 8)) (pn 15)) rfl (.inl rfl)) (@AAf _ _ _ _ _ (@AEn _ _ _ _ _ _ _ _ (@AAy _ _ _ _ _ _ _ _ AEl (pV 1 AB4 1 nms2 12 rfl rfl rfl) (pn 14) rfl) (@AAg _ _ _ (@AAw _ _ _ _ (@ABq _ _ _ _ T.c_NONE (lj AB4 2 rfl) (nj nms1 4 rfl).1))) ABf) (@AAf _ _ _ _ _ (@AEn _ _ _ _ _ _ _ _ (@AAy _ _ _ _ _ _ _ _ AEl (pV 1 AB4 1 nms2 12 rfl rfl rfl) (pn 15) rfl) (@AAg _ _ _ (@AAw _ _ _ _ (@ADv _ _ _ _ _ (@AAa _ _ _ _ _ AD2 (@AAa _ _ _ _ _ ACi (@AAa _ _ _ _ _ ACi (@AAa _ _ _ _ _ ACi (@AAa _ _ _ _ _ (@AAl _ _ _ _ _ _ _ _ ABt (pV 0 AB4 0 nms1 5 rfl rfl rfl) (pn 255)) (@AAa _ _ _ _ _ (@ABq _ _ _ _ T.c_OF_ONE (lj AB4 3 rfl) (nj nms1 21 rfl).1) AAi rfl) rfl) rfl) rfl) rfl) rfl)))) ABf) (@AAg _ _ _ (@AAw _ _ _ _ (@ADv _ _ _ _ _ (@AAa _ _ _ _ _ AD2 (@AAa _ _ _ _ _ (pV 1 AB4 1 nms2 12 rfl rfl rfl) (@AAa _ _ _ _ _ ACi (@AAa _ _ _ _ _ ACi (@AAa _ _ _ _ _ (@AAl _ _ _ _ _ _ _ _ AX3 (pn 2) (@ABy _ _ _ _ _ _ _ _ _ _ G_with_sign (hmo hr) (lj AB4 4 rfl) (@AAa _ _ _ _ _ (@AAl _ _ _ _ _ _ _ _ ABt (pV 0 AB4 0 nms1 5 rfl rfl rfl) (pn 255)) (@AAa _ _ _ _ _ (pn 128) AAi rfl) rfl) (nj nms2 13 rfl).1 rfl rfl)) (@AAa _ _ _ _ _ (@ABq _ _ _ _ T.c_WITH_TARGET (lj AB4 5 rfl) (nj nms2 14 rfl).1) AAi rfl) rfl) rfl) rfl) rfl) rfl))))))), ?_⟩
  refine i15 (is_n (AAc rfl) is_c) _ ?_
  refine ifsP (p := h / 256 % 16 = 14) (ABg (ADa (AAc rfl) is_c)) (fun c1 => ?_) (fun c1 => ?_)
  · exact AGd k fun nx => (AN0 hc.1 hc.2).trans (if_pos c1)
  refine ifsP (p := h / 256 % 16 = 15) (ABg (ADa (AAc rfl) is_c)) (fun c2 => ?_) (fun c2 => ?_)
  · refine ret6 k is_c is_c is_c is_c (i255 (AAc rfl)) ["second"] rfl fun nx => ?_
    rw [AN0 hc.1 hc.2, if_neg c1, if_pos c2]
    rfl
  · refine ret6 (z := Sd12.offset 8 (h % 256)) k is_c (AAc rfl) is_c is_c (AFw (BAk is_c (A8v (AAe (i255 (AAc rfl)) (AAe is_c AAs))) mul2) (congrArg V.int (A3s 7 (h % 256) (Nat.mod_lt _ (by decide))))) ["target"] rfl fun nx => ?_
    rw [AN0 hc.1 hc.2, if_neg c1, if_neg c2]
    rfl
theorem AYg (T : Txt K mg) : Fn P w K mg base "branch" 2 ["half"] (ADy K fun h => h / 2048 = 28) := by
  have G_with_sign := ACu (P := P) (w := w) (base := base) T
  refine AEw T.A5h AXo (fun _ _ _ _ _ _ => ln1 (fun _ => rfl)) (fun f cdv A outer s H h Q E hr hh hc k => ?_)
  refine ⟨_, (@AAg _ _ _ (@AAw _ _ _ _ (@ADv _ _ _ _ _ (@AAa _ _ _ _ _ AD2 (@AAa _ _ _ _ _ ACi (@AAa _ _ _ _ _ ACi (@AAa _ _ _ _ _ ACi (@AAa _ _ _ _ _ (@AAl _ _ _ _ _ _ _ _ AX3 (pn 2) (@ABy _ _ _ _ _ _ _ _ _ _ G_with_sign (hmo hr) (lj AMv 0 rfl) (@AAa _ _ _ _ _ (@AAl _ _ _ _ _ _ _ _ ABt (pV 0 AMv 1 nms1 5 rfl rfl rfl) (pn 2047)) (@AAa _ _ _ _ _ (pn 1024) AAi rfl) rfl) (nj nms2 13 rfl).1 rfl rfl)) (@AAa _ _ _ _ _ (@ABq _ _ _ _ T.c_WITH_TARGET (lj AMv 2 rfl) (nj nms2 14 rfl).1) AAi rfl) rfl) rfl) rfl) rfl) rfl)))), ?_⟩
  refine ret6 (z := Sd12.offset 11 (h % 2048)) k is_c is_c is_c is_c (AFw (BAk is_c (A8v (AAe (BEl (AAc rfl)) (AAe is_c AAs))) mul2) (congrArg V.int (A3s 10 (h % 2048) (Nat.mod_lt _ (by decide))))) ["target"] rfl fun nx => ?_
  rw [BDy hc]
  rfl
end
end Chip
namespace Chip
open PySem L2 LX
section
variable {P : Program} {w : World} {K : Frag} {mg : Str → Option Value} {base : Heap}
theorem AYu {x y q : Nat} (k : Nat) (e : x = 2 ^ k * q) (hy : y < 2 ^ k) : x ||| y = x + y := by
  subst e
  exact (Nat.two_pow_add_eq_or_of_lt hy q).symm
theorem bit3 (s b : Nat) (hs : s < 2) (hb : b < 2) : (1 ^^^ s) ^^^ b = 1 - (b + s) % 2 := by
  have z : s = 0 ∨ s = 1 := by omega
  have y : b = 0 ∨ b = 1 := by omega
  rcases z with z | z <;> rcases y with y | y <;> subst z <;> subst y <;> rfl
theorem AM4 (x : Nat) : Sd12.toNat (x % 2 == 1) = x % 2 := by
  unfold Sd12.toNat
  rcases Nat.mod_two_eq_zero_or_one x with e | e <;> rw [e] <;> rfl
theorem A7g (h nx : Nat) : far h nx = h / 1024 % 2 * 2 ^ 23 + (1 - (nx / 8192 % 2 + h / 1024 % 2) % 2) * 2 ^ 22 + (1 - (nx / 2048 % 2 + h / 1024 % 2) % 2) * 2 ^ 21 + h % 1024 * 2 ^ 11 + nx % 2048 := by
  unfold far
  rw [AM4, AM4, AM4]
theorem BCt {a b c d e : Nat} (ha : a < 2) (hb : b < 2) (hc : c < 2) (hd : d < 1024) (he : e < 2048) : a * 2 ^ 23 + b * 2 ^ 22 + c * 2 ^ 21 + d * 2 ^ 11 + e < 2 ^ 24 := by omega
theorem ASl (x : Nat) : 1 - x < 2 := Nat.lt_of_le_of_lt (Nat.sub_le _ _) (by decide)
theorem APt (x : Nat) : x % 2 < 2 := Nat.mod_lt _ (by decide)
theorem BCq (h nx : Nat) : far h nx < 2 ^ 24 := by
  rw [A7g]
  exact BCt (APt _) (ASl _) (ASl _) (Nat.mod_lt _ (by decide)) (Nat.mod_lt _ (by decide))
theorem BBm (a b c d e : Nat) (ha : a < 2) (hb : b < 2) (hc : c < 2) (hd : d < 1024) (he : e < 2048) : a * 2 ^ 23 ||| b * 2 ^ 22 ||| c * 2 ^ 21 ||| d * 2 ^ 11 ||| e = a * 2 ^ 23 + b * 2 ^ 22 + c * 2 ^ 21 + d * 2 ^ 11 + e := by
  rw [AYu (x := a * 2 ^ 23) (q := a) 23 (Nat.mul_comm _ _) (by omega)]
  rw [AYu (x := a * 2 ^ 23 + b * 2 ^ 22) (q := 2 * a + b) 22 (by omega) (by omega)]
  rw [AYu (x := a * 2 ^ 23 + b * 2 ^ 22 + c * 2 ^ 21) (q := 4 * a + 2 * b + c) 21 (by omega) (by omega)]
  rw [AYu (x := a * 2 ^ 23 + b * 2 ^ 22 + c * 2 ^ 21 + d * 2 ^ 11) (q := a * 2 ^ 12 + b * 2 ^ 11 + c * 2 ^ 10 + d) 11 (by omega) (by omega)]
noncomputable def ASk : Sp := fun vs H Q _ => ∃ h nx : Nat, vs = [vN h, vN nx] ∧ ∀ z : Int, 2 * z = Sd12.offset 24 (far h nx) → Q (.int z) H
theorem sm1 {a b : Nat} (ha : a < 2 ^ 64) (hb : b ≤ 1000000) : Sm a b := ⟨ha, hb⟩
theorem i1 {σ : L2.St} {H : Hp} {ta : TE} {x : Nat} (ha : Is ta σ H (vN x)) : Is (tOp (rN fun a b => a &&& b) ta (tC (.int ((1 : Nat) : Int)))) σ H (vN (x % 2)) := AFw (is_n ha is_c) (congrArg vN (m1 x))
theorem i1023 {σ : L2.St} {H : Hp} {ta : TE} {x : Nat} (ha : Is ta σ H (vN x)) : Is (tOp (rN fun a b => a &&& b) ta (tC (.int ((1023 : Nat) : Int)))) σ H (vN (x % 1024)) := AFw (is_n ha is_c) (congrArg vN (m1023 x))
theorem ibit {σ : L2.St} {H : Hp} {ta tb : TE} {x y : Nat} (ha : Is ta σ H (vN x)) (hb : Is tb σ H (vN y)) (hx : x < 2) (hy : y < 2) : Is (tOp (rN fun a b => a ^^^ b) (tOp (rN fun a b => a ^^^ b) (tC (.int ((1 : Nat) : Int))) ta) tb) σ H (vN (1 - (y + x) % 2)) :=
  AFw (is_n (is_n is_c ha) hb) (congrArg vN (bit3 x y hx hy))
theorem ASv (T : Txt K mg) : Fn P w K mg base "distance" 2 ["first", "second"] ASk := by
  have G_with_sign := ACu (P := P) (w := w) (base := base) T
  refine T.AW9.fn AGh (fun _ _ _ _ _ _ => ln2 (fun _ _ => rfl)) (fun vs H Q E h => ?_) (fun f cdv A outer s H vs Q E hr h => ?_)
  · obtain ⟨v, s, rfl, _⟩ := h
    rfl
  obtain ⟨h, nx, rfl, k⟩ := h
  refine ⟨_, (@AAf _ _ _ _ _ (@ABk _ _ 2 _ _ _ _ AGh.nd rfl (Or.inl (lj ABl 1 rfl)) (@AAl _ _ _ _ _ _ _ _ ABt (@AAl _ _ _ _ _ _ _ _ AEj (pV 0 ABl 0 nms2 15 rfl rfl rfl) (pn 10)) (pn 1)) rfl (.inl rfl)) (@AAf _ _ _ _ _ (@ABk _ _ 3 _ _ _ _ AGh.nd rfl (Or.inl (lj ABl 3 rfl)) (@AAl _ _ _ _ _ _ _ _ ATe (@AAl _ _ _ _ _ _ _ _ ATe (pn 1) (pV 2 ABl 1 nms2 18 rfl rfl rfl)) (@AAl _ _ _ _ _ _ _ _ ABt (@AAl _ _ _ _ _ _ _ _ AEj (pV 1 ABl 2 nms2 16 rfl rfl rfl) (pn 13)) (pn 1))) rfl (.inl rfl)) (@AAf _ _ _ _ _ (@ABk _ _ 4 _ _ _ _ AGh.nd rfl (Or.inl (lj ABl 4 rfl)) (@AAl _ _ _ _ _ _ _ _ ATe (@AAl _ _ _ _ _ _ _ _ ATe (pn 1) (pV 2 ABl 1 nms2 18 rfl rfl rfl)) (@AAl _ _ _ _ _ _ _ _ ABt (@AAl _ _ _ _ _ _ _ _ AEj (pV 1 ABl 2 nms2 16 rfl rfl rfl) (pn 11)) (pn 1))) rfl (.inl rfl)) (@AAf _ _ _ _ _ (@ABk _ _ 5 _ _ _ _ AGh.nd rfl (Or.inl (lj ABl 5 rfl)) (@AAl _ _ _ _ _ _ _ _ n_or (@AAl _ _ _ _ _ _ _ _ n_or (@AAl _ _ _ _ _ _ _ _ n_or (@AAl _ _ _ _ _ _ _ _ n_or (@AAl _ _ _ _ _ _ _ _ AX1 (pV 2 ABl 1 nms2 18 rfl rfl rfl) (pn 23)) (@AAl _ _ _ _ _ _ _ _ AX1 (pV 3 ABl 3 nms2 19 rfl rfl rfl) (pn 22))) (@AAl _ _ _ _ _ _ _ _ AX1 (pV 4 ABl 4 nms2 20 rfl rfl rfl) (pn 21))) (@AAl _ _ _ _ _ _ _ _ AX1 (@AAl _ _ _ _ _ _ _ _ ABt (pV 0 ABl 0 nms2 15 rfl rfl rfl) (pn 1023)) (pn 11))) (@AAl _ _ _ _ _ _ _ _ ABt (pV 1 ABl 2 nms2 16 rfl rfl rfl) (pn 2047))) rfl (.inl rfl)) (@AAg _ _ _ (@AAw _ _ _ _ (@ABy _ _ _ _ _ _ _ _ _ _ G_with_sign (hmo hr) (lj ABl 6 rfl) (@AAa _ _ _ _ _ (pV 5 ABl 5 nms2 21 rfl rfl rfl) (@AAa _ _ _ _ _ (pn 8388608) AAi rfl) rfl) (nj nms2 13 rfl).1 rfl rfl))))))), ?_⟩
  refine i1 (is_n (AAc rfl) is_c) _ ?_
  refine ibit (AAc rfl) (i1 (is_n (AAc rfl) is_c)) (APt _) (APt _) _ ?_
  refine ibit (AAc rfl) (i1 (is_n (AAc rfl) is_c)) (APt _) (APt _) _ ?_
  refine is_n (is_n (is_n (is_n (AIw (AAc rfl) is_c ?_) (AIw (AAc rfl) is_c ?_)) (AIw (AAc rfl) is_c ?_)) (AIw (i1023 (AAc rfl)) is_c ?_)) (BEl (AAc rfl)) _ ?_
  · exact sm1 (Nat.lt_trans (APt _) (by decide)) (by decide)
  · exact sm1 (Nat.lt_trans (ASl _) (by decide)) (by decide)
  · exact sm1 (Nat.lt_trans (ASl _) (by decide)) (by decide)
  · exact sm1 (Nat.lt_trans (Nat.mod_lt _ (by decide : 0 < 1024)) (by decide)) (by decide)
  have eN := (BBm (h / 1024 % 2) (1 - (nx / 8192 % 2 + h / 1024 % 2) % 2) (1 - (nx / 2048 % 2 + h / 1024 % 2) % 2) (h % 1024) (nx % 2048) (APt _) (ASl _) (ASl _) (Nat.mod_lt _ (by decide)) (Nat.mod_lt _ (by decide))).trans (A7g h nx).symm
  refine AJv (AAe (AFw (AAc rfl) (congrArg vN eN)) (AAe is_c AAs)) ⟨far h nx, 8388608, rfl, k _ ?_⟩
  exact A3s 23 (far h nx) (BCq h nx)
noncomputable def A9n (K : Frag) : Sp := fun vs H Q _ => ∃ h nx : Nat, vs = [vN h, vN nx] ∧ h < 65536 ∧ nx < 65536 ∧ h / 2048 = 30 ∧ ∀ p H', Same H H' → AM6 K H' p (abOf (Sd12.decode h nx)) → Q (.ref p) H'
theorem A37 (x m k : Nat) : x &&& m * 2 ^ k = (x / 2 ^ k &&& m) * 2 ^ k := by
  apply Nat.eq_of_testBit_eq
  intro i
  rw [Nat.testBit_and, Nat.testBit_mul_two_pow, Nat.testBit_mul_two_pow, Nat.testBit_and, Nat.testBit_div_two_pow]
  by_cases l : k ≤ i
  · rw [decide_eq_true l, Bool.true_and, Bool.true_and, Nat.sub_add_cancel l]
  · rw [decide_eq_false l, Bool.false_and, Bool.false_and, Bool.and_false]
theorem A2f (nx : Nat) (h : nx < 65536) : (nx &&& 53248 = 53248) ↔ (nx / 16384 % 4 = 3 ∧ nx / 4096 % 2 = 1) := by
  have e : nx &&& 53248 = (nx / 4096 &&& 13) * 4096 := A37 nx 13 12
  rw [e, ← Nat.div_div_eq_div_mul nx 4096 4]
  exact (by decide +kernel : ∀ t : _root_.Fin 16, (t.1 &&& 13) * 4096 = 53248 ↔ (t.1 / 4 % 4 = 3 ∧ t.1 % 2 = 1)) ⟨nx / 4096, Nat.div_lt_of_lt_mul h⟩
theorem AWb {nx : Nat} (h : nx / 16 = 0x8F4 ∨ nx / 16 = 0x8F5 ∨ nx / 16 = 0x8F6) : ¬ (nx / 16384 % 4 = 3 ∧ nx / 4096 % 2 = 1) := fun z => by
  have q := z.1
  rw [← Nat.div_div_eq_div_mul nx 16 1024] at q
  rcases h with e | e | e <;> rw [e] at q <;> exact absurd q (by decide)
theorem A9o (T : Txt K mg) : Fn P w K mg base "wide" 3 ["first", "second"] (A9n K) := by
  have G_distance := ASv (P := P) (w := w) (base := base) T
  refine T.BDv.fn A58 (fun _ _ _ _ _ _ => ln2 (fun _ _ => rfl)) (fun vs H Q E h => ?_) (fun f cdv A outer s H vs Q E hr h => ?_)
  · obtain ⟨v, s, rfl, _⟩ := h
    rfl
  obtain ⟨h, nx, rfl, hh, hn, hc, k⟩ := h
  refine ⟨_, (@AAf _ _ _ _ _ (@AEn _ _ _ _ _ _ _ _ (@PW.pt _ _ _ (@AOs _ _ _ _ _ _ _ (@AAy _ _ _ _ _ _ _ _ AEl (pV 0 AIi 0 nms2 15 rfl rfl rfl) (pn 62399) rfl) (@AKg _ _ _ _ (@AAy _ _ _ _ _ _ _ _ AR2 (@AAl _ _ _ _ _ _ _ _ AEj (pV 1 AIi 1 nms2 16 rfl rfl rfl) (pn 4)) (@ADv _ _ _ _ _ (@AAa _ _ _ _ _ (pn 2292) (@AAa _ _ _ _ _ (pn 2293) (@AAa _ _ _ _ _ (pn 2294) AAi rfl) rfl) rfl)) rfl)))) (@AAg _ _ _ (@AAw _ _ _ _ (@ADv _ _ _ _ _ (@AAa _ _ _ _ _ AD2 (@AAa _ _ _ _ _ ACi (@AAa _ _ _ _ _ ACi (@AAa _ _ _ _ _ ACi (@AAa _ _ _ _ _ (pn 0) (@AAa _ _ _ _ _ (@ABq _ _ _ _ T.c_ALONE (lj AIi 2 rfl) (nj nms2 9 rfl).1) AAi rfl) rfl) rfl) rfl) rfl) rfl)))) ABf) (@AAf _ _ _ _ _ (@AEn _ _ _ _ _ _ _ _ (@AAy _ _ _ _ _ _ _ _ AEl (@AAl _ _ _ _ _ _ _ _ ABt (pV 1 AIi 1 nms2 16 rfl rfl rfl) (pn 53248)) (pn 53248) rfl) (@AAg _ _ _ (@AAw _ _ _ _ (@ADv _ _ _ _ _ (@AAa _ _ _ _ _ AD2 (@AAa _ _ _ _ _ ACi (@AAa _ _ _ _ _ ACi (@AAa _ _ _ _ _ ACi (@AAa _ _ _ _ _ (@AAl _ _ _ _ _ _ _ _ AX3 (pn 2) (@ABy _ _ _ _ _ _ _ _ _ _ G_distance (hmo hr) (lj AIi 3 rfl) (@AAa _ _ _ _ _ (pV 0 AIi 0 nms2 15 rfl rfl rfl) (@AAa _ _ _ _ _ (pV 1 AIi 1 nms2 16 rfl rfl rfl) AAi rfl) rfl) (nj nms2 17 rfl).1 rfl rfl)) (@AAa _ _ _ _ _ (@ABq _ _ _ _ T.c_WITH_TARGET (lj AIi 4 rfl) (nj nms2 14 rfl).1) AAi rfl) rfl) rfl) rfl) rfl) rfl)))) ABf) (@AAg _ _ _ (@AAw _ _ _ _ (@ABq _ _ _ _ T.c_NONE (lj AIi 5 rfl) (nj nms1 4 rfl).1))))), ?_⟩
  show tSeq (tIfS _ _ _) _ _ _ _
  refine ifsG (b := decide (h = 0xF3BF) && decide (nx / 16 = 0x8F4 ∨ nx / 16 = 0x8F5 ∨ nx / 16 = 0x8F6)) ?_ fun H1 s1 => ?_
  · refine BCb (Pure.grow ?_) fun H1 s1 _ => ?_
    · intro Q q
      exact ⟨_, rfl, rfl, _, bN h 0xF3BF, q⟩
    · intro Q q
      refine ⟨_, rfl, _, _, rfl, rfl, by show 3 ≤ sizeLine; decide, fun p hp => ?_⟩
      refine ⟨_, _, rfl, .inr (.of AAv), rfl, AN7 [2292, 2293, 2294], _, ?_, q _ (ABm hp)⟩
      show V.bl (inV (vN (nx / 16)) ([2292, 2293, 2294].map vN)) = _
      rw [AQg]
      congr 1
      rw [Bool.eq_iff_iff, List.contains_iff_mem]
      simp
  · refine ite2 (fun c1 => ?_) (fun c1 => ?_)
    · rw [Bool.and_eq_true, decide_eq_true_eq, decide_eq_true_eq] at c1
      refine fun a ha => ⟨six, fun p hp => ?_⟩
      refine k p _ (s1.trans (ABm hp)) (AWy AAv ha (ops := []) rfl ?_)
      rw [AJf hc, if_neg (AWb c1.2), if_pos c1]
      rfl
    · rw [Bool.and_eq_true, decide_eq_true_eq, decide_eq_true_eq] at c1
      have eb : V.bl (decide (V.int ((nx &&& 53248 : Nat) : Int) = V.int ((53248 : Nat) : Int))) = V.bl (decide (nx / 16384 % 4 = 3 ∧ nx / 4096 % 2 = 1)) := (bN _ _).trans (congrArg V.bl (decide_eq_decide.mpr (A2f nx hn)))
      refine ⟨_, rfl, _, _, rfl, rfl, rfl, _, eb, ?_⟩
      refine ite2 (fun c2 => ?_) (fun c2 => ?_)
      · rw [decide_eq_true_eq] at c2
        refine ⟨_, rfl, _, rfl, h, nx, rfl, fun z ez => ?_⟩
        refine ⟨_, _, rfl, rfl, .inl ⟨by decide, by decide⟩, fun a ha => ⟨six, fun p hp => ?_⟩⟩
        refine k p _ (s1.trans (ABm hp)) (AWy AAv ha (ops := ["target"]) rfl ?_)
        rw [AJf hc, if_pos c2]
        show _ = (⟨"bl", .non, .non, .non, .inl (2 * z), ["target"]⟩ : Ab)
        rw [ez]
        rfl
      · rw [decide_eq_true_eq] at c2
        refine fun a' ha' => k a' _ s1 ?_
        rw [AJf hc, if_neg c2, if_neg c1]
        exact ARk ha'
theorem AIp {α β : Type} {R : α → β → Prop} : ∀ {l : List α} {m : List β}, Paired R l m → ∀ {i : Nat} {y : β}, m[i]? = some y → ∃ x, l[i]? = some x ∧ R x y
  | _, _, .nil, i, y, e => by simp at e
  | _, _, .cons r t, 0, y, e => by
    simp at e
    subst e
    exact ⟨_, rfl, r⟩
  | _, _, .cons r t, i + 1, y, e => by
    obtain ⟨x, h1, h2⟩ := AIp t (i := i) (y := y) (by simpa using e)
    exact ⟨x, by simpa using h1, h2⟩
theorem AWq {fs : List Addr} {i : Nat} {f : Addr} (h : fs[i]? = some f) : (fs.map V.ref)[i]? = some (.ref f) := by
  rw [List.getElem?_map, h]
  rfl
noncomputable def A2k : List Str := ["stack_pointer", "no_instruction", "extension", "no_instruction", "push_list", "push_list", "no_instruction", "no_instruction", "no_instruction", "no_instruction", "turned_bytes", "no_instruction", "pop_list", "pop_list", "bkpt", "hint"]
theorem nek {a m n : Nat} (c : a = m) (h : m ≠ n) : ¬ a = n := fun e => h (c.symm.trans e)
theorem A2w (T : Txt K mg) {h : Nat} (hc : AUt h) : ∃ x pre, A2k[h / 256 % 16]? = some x ∧ Fn P w K mg base x 2 ["half"] (ADy K pre) ∧ pre h := by
  have z : h / 256 % 16 < 16 := Nat.mod_lt _ (by decide)
  have no : ∀ nx, ¬ h / 256 % 16 = 0 → ¬ h / 256 % 16 = 2 → ¬ h / 256 % 16 = 4 → ¬ h / 256 % 16 = 5 → ¬ h / 256 % 16 = 12 → ¬ h / 256 % 16 = 13 → ¬ h / 256 % 16 = 10 → ¬ h / 256 % 16 = 14 → ¬ h / 256 % 16 = 15 → Sd12.decode h nx = none := by
    intro nx a0 a2 a4 a5 a12 a13 a10 a14 a15
    rw [AG9 hc.1 hc.2, if_neg a0, if_neg a2, if_neg (fun z => z.elim a4 a5), if_neg (fun z => z.elim a12 a13), if_neg a10, if_neg a14, if_neg (fun z => a15 z.1)]
  have fno := (AEs (P := P) (w := w) (base := base) T).mono (k := 2) (by decide)
  have cs := (by decide +kernel : ∀ t : _root_.Fin 16, t.1 = 0 ∨ t.1 = 1 ∨ t.1 = 2 ∨ t.1 = 3 ∨ t.1 = 4 ∨ t.1 = 5 ∨ t.1 = 6 ∨ t.1 = 7 ∨ t.1 = 8 ∨ t.1 = 9 ∨ t.1 = 10 ∨ t.1 = 11 ∨ t.1 = 12 ∨ t.1 = 13 ∨ t.1 = 14 ∨ t.1 = 15) ⟨h / 256 % 16, z⟩
  dsimp only at cs
  rcases cs with c | c | c | c | c | c | c | c | c | c | c | c | c | c | c | c <;> (have c' := c; rw [c])
  · exact ⟨_, _, rfl, (ALm T).mono (by decide), hc, c'⟩
  · exact ⟨_, _, rfl, fno, fun nx => no nx (nek c' (by decide)) (nek c' (by decide)) (nek c' (by decide)) (nek c' (by decide)) (nek c' (by decide)) (nek c' (by decide)) (nek c' (by decide)) (nek c' (by decide)) (nek c' (by decide))⟩
  · exact ⟨_, _, rfl, (APx T).mono (by decide), hc, c'⟩
  · exact ⟨_, _, rfl, fno, fun nx => no nx (nek c' (by decide)) (nek c' (by decide)) (nek c' (by decide)) (nek c' (by decide)) (nek c' (by decide)) (nek c' (by decide)) (nek c' (by decide)) (nek c' (by decide)) (nek c' (by decide))⟩
  · exact ⟨_, _, rfl, ALn T, hc, .inl c'⟩
  · exact ⟨_, _, rfl, ALn T, hc, .inr c'⟩
  · exact ⟨_, _, rfl, fno, fun nx => no nx (nek c' (by decide)) (nek c' (by decide)) (nek c' (by decide)) (nek c' (by decide)) (nek c' (by decide)) (nek c' (by decide)) (nek c' (by decide)) (nek c' (by decide)) (nek c' (by decide))⟩
  · exact ⟨_, _, rfl, fno, fun nx => no nx (nek c' (by decide)) (nek c' (by decide)) (nek c' (by decide)) (nek c' (by decide)) (nek c' (by decide)) (nek c' (by decide)) (nek c' (by decide)) (nek c' (by decide)) (nek c' (by decide))⟩
  · exact ⟨_, _, rfl, fno, fun nx => no nx (nek c' (by decide)) (nek c' (by decide)) (nek c' (by decide)) (nek c' (by decide)) (nek c' (by decide)) (nek c' (by decide)) (nek c' (by decide)) (nek c' (by decide)) (nek c' (by decide))⟩
  · exact ⟨_, _, rfl, fno, fun nx => no nx (nek c' (by decide)) (nek c' (by decide)) (nek c' (by decide)) (nek c' (by decide)) (nek c' (by decide)) (nek c' (by decide)) (nek c' (by decide)) (nek c' (by decide)) (nek c' (by decide))⟩
  · exact ⟨_, _, rfl, (AL3 T).mono (by decide), hc, c'⟩
  · exact ⟨_, _, rfl, fno, fun nx => no nx (nek c' (by decide)) (nek c' (by decide)) (nek c' (by decide)) (nek c' (by decide)) (nek c' (by decide)) (nek c' (by decide)) (nek c' (by decide)) (nek c' (by decide)) (nek c' (by decide))⟩
  · exact ⟨_, _, rfl, AMk T, hc, .inl c'⟩
  · exact ⟨_, _, rfl, AMk T, hc, .inr c'⟩
  · exact ⟨_, _, rfl, (A7o T).mono (by decide), hc, c'⟩
  · exact ⟨_, _, rfl, (A9s T).mono (by decide), hc, c'⟩
theorem A1s (T : Txt K mg) : Fn P w K mg base "odds" 3 ["half"] (ADy K AUt) := by
  refine T.BDu.fn A7u (fun _ _ _ _ _ _ => ln1 (fun _ => rfl)) (fun vs H Q E h => A1c h) (fun f cdv A outer s H vs Q E hr h => ?_)
  obtain ⟨h, rfl, hh, hc, k⟩ := h
  refine ⟨_, (@AAg _ _ _ (@AAw _ _ _ _ (@A2v _ 2 _ _ _ _ _ _ (@ACz _ _ _ _ _ _ _ AGn (@ABq _ _ _ _ T.c_ODDS (lj AUa 0 rfl) (nj nms2 10 rfl).1) (@AAl _ _ _ _ _ _ _ _ ABt (@AAl _ _ _ _ _ _ _ _ AEj (pV 0 AUa 1 nms1 5 rfl rfl rfl) (pn 8)) (pn 15)) (fun _ _ => rfl)) (hmo hr) (@AAa _ _ _ _ _ (pV 0 AUa 1 nms1 5 rfl rfl rfl) AAi rfl) rfl rfl rfl))), ?_⟩
  obtain ⟨x, pre, hx, F, hp⟩ := A2w (P := P) (w := w) (base := base) T hc
  refine fun a ha => ⟨_, rfl, _, _, rfl, rfl, _, _, rfl, rfl, ?_⟩
  obtain ⟨fs, hk, hm⟩ := ha
  obtain ⟨g, hg, hmg⟩ := AIp hm hx
  refine ⟨_, _, ((h / 256 % 16 : Nat) : Int), _, rfl, congrArg vN (m15 _), hk.sq, atN (AWq hg), g, _, rfl, ⟨_, F.can hmg⟩, ?_⟩
  exact ⟨_, rfl, h, rfl, hh, hp, k⟩
noncomputable def A3x : List Str := ["shift_by_number", "shift_by_number", "shift_by_number", "sum_of_three", "with_byte", "with_byte", "with_byte", "with_byte", "with_registers", "load_from_program", "move_by_register", "move_by_register", "move_by_number", "move_by_number", "move_by_number", "move_by_number", "move_by_number", "move_by_number", "move_on_stack", "move_on_stack", "place_in_program", "place_on_stack", "odds", "odds", "store_list", "load_list", "branch_if", "branch_if", "branch", "no_instruction", "no_instruction", "no_instruction"]
theorem A3n (T : Txt K mg) {h : Nat} (hh : h < 65536) (hc : h / 2048 ≠ 30) : ∃ x pre, A3x[h / 2048]? = some x ∧ Fn P w K mg base x 3 ["half"] (ADy K pre) ∧ pre h := by
  have cs := (by decide +kernel : ∀ t : _root_.Fin 32, t.1 ≠ 30 → (t.1 = 0 ∨ t.1 = 1 ∨ t.1 = 2 ∨ t.1 = 3 ∨ t.1 = 4 ∨ t.1 = 5 ∨ t.1 = 6 ∨ t.1 = 7 ∨ t.1 = 8 ∨ t.1 = 9 ∨ t.1 = 10 ∨ t.1 = 11 ∨ t.1 = 12 ∨ t.1 = 13 ∨ t.1 = 14 ∨ t.1 = 15 ∨ t.1 = 16 ∨ t.1 = 17 ∨ t.1 = 18 ∨ t.1 = 19 ∨ t.1 = 20 ∨ t.1 = 21 ∨ t.1 = 22 ∨ t.1 = 23 ∨ t.1 = 24 ∨ t.1 = 25 ∨ t.1 = 26 ∨ t.1 = 27 ∨ t.1 = 28 ∨ t.1 = 29 ∨ t.1 = 31)) ⟨h / 2048, Nat.div_lt_of_lt_mul hh⟩ hc
  dsimp only at cs
  rcases cs with c | c | c | c | c | c | c | c | c | c | c | c | c | c | c | c | c | c | c | c | c | c | c | c | c | c | c | c | c | c | c <;> (have c' := c; rw [c])
  · exact ⟨_, _, rfl, (AD4 T).mono (by decide), by rw [c']; decide⟩
  · exact ⟨_, _, rfl, (AD4 T).mono (by decide), by rw [c']; decide⟩
  · exact ⟨_, _, rfl, (AD4 T).mono (by decide), by rw [c']; decide⟩
  · exact ⟨_, _, rfl, (AL0 T).mono (by decide), c'⟩
  · exact ⟨_, _, rfl, (AGu T).mono (by decide), by rw [c']; decide⟩
  · exact ⟨_, _, rfl, (AGu T).mono (by decide), by rw [c']; decide⟩
  · exact ⟨_, _, rfl, (AGu T).mono (by decide), by rw [c']; decide⟩
  · exact ⟨_, _, rfl, (AGu T).mono (by decide), by rw [c']; decide⟩
  · exact ⟨_, _, rfl, AJz T, c'⟩
  · exact ⟨_, _, rfl, (AH1 T).mono (by decide), c'⟩
  · exact ⟨_, _, rfl, (AFx T).mono (by decide), by rw [c']; decide⟩
  · exact ⟨_, _, rfl, (AFx T).mono (by decide), by rw [c']; decide⟩
  · exact ⟨_, _, rfl, (ACf T).mono (by decide), by rw [c']; decide⟩
  · exact ⟨_, _, rfl, (ACf T).mono (by decide), by rw [c']; decide⟩
  · exact ⟨_, _, rfl, (ACf T).mono (by decide), by rw [c']; decide⟩
  · exact ⟨_, _, rfl, (ACf T).mono (by decide), by rw [c']; decide⟩
  · exact ⟨_, _, rfl, (ACf T).mono (by decide), by rw [c']; decide⟩
  · exact ⟨_, _, rfl, (ACf T).mono (by decide), by rw [c']; decide⟩
  · exact ⟨_, _, rfl, (AHj T).mono (by decide), by rw [c']; decide⟩
  · exact ⟨_, _, rfl, (AHj T).mono (by decide), by rw [c']; decide⟩
  · exact ⟨_, _, rfl, (AIr T).mono (by decide), c'⟩
  · exact ⟨_, _, rfl, (AJ4 T).mono (by decide), c'⟩
  · exact ⟨_, _, rfl, A1s T, by rw [c']; decide, by rw [c']; decide⟩
  · exact ⟨_, _, rfl, A1s T, by rw [c']; decide, by rw [c']; decide⟩
  · exact ⟨_, _, rfl, (AO3 T).mono (by decide), c'⟩
  · exact ⟨_, _, rfl, (AQ3 T).mono (by decide), c'⟩
  · exact ⟨_, _, rfl, (AK1 T).mono (by decide), by rw [c']; decide⟩
  · exact ⟨_, _, rfl, (AK1 T).mono (by decide), by rw [c']; decide⟩
  · exact ⟨_, _, rfl, (AYg T).mono (by decide), c'⟩
  · exact ⟨_, _, rfl, (AEs T).mono (by decide), fun nx => A2l hh (.inl c')⟩
  · exact ⟨_, _, rfl, (AEs T).mono (by decide), fun nx => A2l hh (.inr c')⟩
noncomputable def AK7 : Sp := fun vs H Q _ => ∃ h : Nat, vs = [vN h] ∧ Q (.bl (decide (h / 2048 = 30))) H
theorem AG5 (T : Txt K mg) : Fn P w K mg base "is_first_half" 1 ["half"] AK7 := by
  refine T.AL9.fn AKo (fun _ _ _ _ _ _ => ln1 (fun _ => rfl)) (fun vs H Q E h => ?_) (fun f cdv A outer s H vs Q E hr h => ?_)
  · obtain ⟨v, rfl, _⟩ := h
    rfl
  obtain ⟨h, rfl, k⟩ := h
  refine ⟨_, (@AAg _ _ _ (@AAw _ _ _ _ (@ADs _ _ _ _ _ _ _ _ AEl (@AAl _ _ _ _ _ _ _ _ AEj (pV 0 AHk 0 nms1 5 rfl rfl rfl) (pn 11)) (@AAt _ _ _ _ T.c_WIDE (lj AHk 1 rfl) (nj nms2 22 rfl).1) rfl))), ?_⟩
  exact ADa (is_n (AAc rfl) is_c) is_c _ k
noncomputable def AQv (m : List Nat) (p : Nat) : Option Sd12.Ins := Sd12.decode (half m p) (if p + 4 ≤ 65536 then half m (p + 2) else 0)
theorem half_lt {m : List Nat} (h : ∀ x ∈ m, x < 256) (p : Nat) : half m p < 65536 := by
  unfold half
  have h1 := ARd h p
  have h2 := ARd h (p + 1)
  omega
noncomputable def AJ1 (K : Frag) : Sp := fun vs H Q _ => ∃ (a : Addr) (m : List Nat) (p : Nat), vs = [.ref a, vN p] ∧ SqL K H a (m.map vN) ∧ (∀ x ∈ m, x < 256) ∧ m.length = 65536 ∧ p + 2 ≤ 65536 ∧
  ∀ q H', Same H H' → AM6 K H' q (abOf (AQv m p)) → (half m p / 2048 ≠ 30 → ∀ nx, AM6 K H' q (abOf (Sd12.decode (half m p) nx))) → Q (.ref q) H'
theorem AJ5 (T : Txt K mg) : Fn P w K mg base "instruction_at" 4 ["memory", "place"] (AJ1 K) := by
  have G_half_at := AIt (P := P) (w := w) (base := base) T
  have G_is_first_half := AG5 (P := P) (w := w) (base := base) T
  have G_wide := A9o (P := P) (w := w) (base := base) T
  refine T.ALu.fn AG1 (fun _ _ _ _ _ _ => ln2 (fun _ _ => rfl)) (fun vs H Q E h => ?_) (fun f cdv A outer s H vs Q E hr h => ?_)
  · obtain ⟨a, m, p, rfl, _⟩ := h
    rfl
  obtain ⟨a, m, p, rfl, hS, hb, hl, hp, k⟩ := h
  refine ⟨_, (@AAf _ _ _ _ _ (@ABk _ _ 2 _ _ _ _ AG1.nd rfl (Or.inl (lj AAn 3 rfl)) (@ABy _ _ _ _ _ _ _ _ _ _ G_half_at (hmo hr) (lj AAn 0 rfl) (@AAa _ _ _ _ _ (pV 0 AAn 1 nms0 14 rfl rfl rfl) (@AAa _ _ _ _ _ (pV 1 AAn 2 nms0 16 rfl rfl rfl) AAi rfl) rfl) (nj nms1 1 rfl).1 rfl rfl) rfl (.inl rfl)) (@AAf _ _ _ _ _ (@AEn _ _ _ _ _ _ _ _ (@A2p _ _ _ _ (@AJ0 _ _ _ (@ABy _ _ _ _ _ _ _ _ _ _ G_is_first_half (hmo hr) (lj AAn 4 rfl) (@AAa _ _ _ _ _ (pV 2 AAn 3 nms1 5 rfl rfl rfl) AAi rfl) (nj nms2 23 rfl).1 rfl rfl) (by intro _; rfl))) (@AAg _ _ _ (@AAw _ _ _ _ (@A2v _ 3 _ _ _ _ _ _ (@ACz _ _ _ _ _ _ _ AGn (@ABq _ _ _ _ T.c_BY_HIGHEST_BITS (lj AAn 5 rfl) (nj nms3 0 rfl).1) (@AAl _ _ _ _ _ _ _ _ AEj (pV 2 AAn 3 nms1 5 rfl rfl rfl) (pn 11)) (fun _ _ => rfl)) (hmo hr) (@AAa _ _ _ _ _ (pV 2 AAn 3 nms1 5 rfl rfl rfl) AAi rfl) rfl rfl rfl))) ABf) (@AAf _ _ _ _ _ (@AEn _ _ _ _ _ _ _ _ (@AAy _ _ _ _ _ _ _ _ A6m (@AAl _ _ _ _ _ _ _ _ AHo (pV 1 AAn 2 nms0 16 rfl rfl rfl) (pn 4)) (@AAt _ _ _ _ T.c_SIZE (lj AAn 6 rfl) (nj nms0 13 rfl).1) rfl) (@AAg _ _ _ (@AAw _ _ _ _ (@ABq _ _ _ _ T.c_NONE (lj AAn 7 rfl) (nj nms1 4 rfl).1))) ABf) (@AAg _ _ _ (@AAw _ _ _ _ (@ABy _ _ _ _ _ _ _ _ _ _ G_wide (hmo hr) (lj AAn 8 rfl) (@AAa _ _ _ _ _ (pV 2 AAn 3 nms1 5 rfl rfl rfl) (@AAa _ _ _ _ _ (@ABy _ _ _ _ _ _ _ _ _ _ G_half_at (hmo hr) (lj AAn 0 rfl) (@AAa _ _ _ _ _ (pV 0 AAn 1 nms0 14 rfl rfl rfl) (@AAa _ _ _ _ _ (@AAl _ _ _ _ _ _ _ _ AHo (pV 1 AAn 2 nms0 16 rfl rfl rfl) (pn 2)) AAi rfl) rfl) (nj nms1 1 rfl).1 rfl rfl) AAi rfl) rfl) (nj nms3 1 rfl).1 rfl rfl)))))), ?_⟩
  have hh := half_lt hb p
  have p1 : p + 1 < m.length := by rw [hl]; exact hp
  refine AJv (AAe (AAc rfl) (AAe (AAc rfl) AAs)) ⟨a, m, p, rfl, hS, hb, p1, ?_⟩
  refine ⟨_, rfl, _, rfl, _, rfl, ?_⟩
  refine ite2 (fun c1 => ?_) (fun c1 => ?_)
  · have c1 : half m p / 2048 ≠ 30 := by simpa using c1
    obtain ⟨x, pre, hx, F, hpre⟩ := A3n (P := P) (w := w) (base := base) T hh c1
    refine fun t ht => ⟨_, rfl, _, _, rfl, rfl, ?_⟩
    obtain ⟨fs, hk, hm⟩ := ht
    obtain ⟨g, hg, hmg⟩ := AIp hm hx
    refine ⟨_, _, ((half m p / 2048 : Nat) : Int), _, rfl, rfl, hk.sq, atN (AWq hg), g, _, rfl, ⟨_, F.can hmg⟩, ?_⟩
    exact ⟨_, rfl, half m p, rfl, hh, hpre, fun q H' s1 hi => k q H' s1 (hi _) fun _ => hi⟩
  · have c1 : half m p / 2048 = 30 := by simpa using c1
    refine ⟨_, rfl, _, _, rfl, rfl, _, _, rfl, rfl, _, (bLt 65536 (p + 4)), ?_⟩
    refine ite2 (fun c2 => ?_) (fun c2 => ?_)
    · rw [decide_eq_true_eq] at c2
      refine fun t ht => k t _ (Same.refl _) ?_ fun z => absurd c1 z
      unfold AQv
      rw [if_neg (Nat.not_le_of_lt c2), AJf c1, if_neg (by decide), if_neg (fun z => absurd z.2 (by decide))]
      exact ARk ht
    · rw [decide_eq_true_eq] at c2
      refine ⟨_, rfl, _, rfl, _, rfl, _, _, rfl, rfl, a, m, p + 2, rfl, hS, hb, by rw [hl]; exact Nat.le_of_not_lt c2, ?_⟩
      refine ⟨half m p, half m (p + 2), rfl, hh, half_lt hb _, c1, fun q H' s1 hi => k q H' s1 ?_ fun z => absurd c1 z⟩
      unfold AQv
      rw [if_pos (Nat.le_of_not_lt c2)]
      exact hi
end
end Chip
namespace Chip
open PySem L2 LX
theorem A6t {K : Frag} {a b : Addr} {xs ys : List V} {g : TG} {tb : TS} {D : Ends} {σ : L2.St} {H : Hp} (len : xs.length = ys.length) (Pv : Nat → L2.St → Hp → Prop) (h0 : Pv 0 σ H)
    (hl : ∀ i σ H, Pv i σ H → SqL K H a xs ∧ SqL K H b ys) (un : ∀ H zs, SqL K H a xs → SqL K H a zs → Pv 0 σ H → True)
    (hs : ∀ i x y t σ H, xs[i]? = some x → ys[i]? = some y → H t = none → Pv i σ H → g (.ref t) σ (upd H t (.tup [x, y])) fun σ2 H2 => tb { D with nx := Pv (i + 1), ct := Pv (i + 1), bk := D.nx } σ2 H2) (hd : ∀ σ H, Pv xs.length σ H → D.nx σ H) :
    ∃ W : Nat → Nat → L2.St → Hp → Prop, (∃ m, W 0 m σ H) ∧ ∀ i m σ H, W i m σ H →
      ((Itz K a b).stop i H ∧ D.nx σ H) ∨ ((Itz K a b).go i H ∧ ∃ N : L2.St → Hp → Prop, (∀ σ' H', N σ' H' → ∃ m', m' < m ∧ W (i + 1) m' σ' H') ∧ ∀ x H', (Itz K a b).yld i H x H' → g x σ H' fun σ2 H2 => tb { D with nx := N, ct := N, bk := D.nx } σ2 H2) := by
  refine ⟨fun i m σ H => m = xs.length - i ∧ i ≤ xs.length ∧ Pv i σ H, ⟨xs.length, by simp, Nat.zero_le _, h0⟩, ?_⟩
  rintro i m σ H ⟨rfl, hi, p⟩
  obtain ⟨qa, qb⟩ := hl i σ H p
  by_cases hlt : i < xs.length
  · have hlt2 : i < ys.length := by omega
    refine .inr ⟨⟨xs, ys, xs[i], ys[i], qa, qb, by simp [hlt], by simp [hlt2]⟩, Pv (i + 1), fun σ' H' p' => ⟨xs.length - (i + 1), by omega, rfl, hlt, p'⟩, fun v H' y => ?_⟩
    obtain ⟨t, x, z, rfl, ht, rfl, hx, hz⟩ := y
    exact hs i x z t σ H (hx xs qa) (hz ys qb) ht p
  · obtain rfl : i = xs.length := by omega
    exact .inl ⟨⟨xs, ys, qa, qb, .inl (Nat.le_refl _)⟩, hd σ H p⟩
section
variable {P : Program} {w : World} {K : Frag} {mg : Str → Option Value} {base : Heap}
noncomputable def memL (ps ds : List Nat) : List Nat := (ps.zip ds).foldl (fun m x => m.set x.1 x.2) (List.replicate 65536 0)
theorem AVi (l : List (Nat × Nat)) : ∀ m : List Nat, (l.foldl (fun m x => m.set x.1 x.2) m).length = m.length := by
  induction l with
  | nil => intro m; rfl
  | cons x l ih => intro m; rw [List.foldl_cons, ih, List.length_set]
theorem A3r (ps ds : List Nat) : (memL ps ds).length = 65536 := by
  unfold memL
  rw [AVi, List.length_replicate]
theorem fold_lt (l : List (Nat × Nat)) : ∀ m : List Nat, (∀ x ∈ m, x < 256) → (∀ x ∈ l, x.2 < 256) → ∀ x ∈ l.foldl (fun m x => m.set x.1 x.2) m, x < 256 := by
  induction l with
  | nil => intro m h _; exact h
  | cons y l ih =>
    intro m h hl
    rw [List.foldl_cons]
    refine ih _ (fun x hx => ?_) (fun x hx => hl x (List.mem_cons_of_mem _ hx))
    rcases List.mem_or_eq_of_mem_set hx with z | z
    · exact h x z
    · rw [z]; exact hl y (List.mem_cons_self)
theorem A7t {ps ds : List Nat} (h : ∀ d ∈ ds, d < 256) : ∀ x ∈ memL ps ds, x < 256 := by
  unfold memL
  refine fold_lt _ _ (fun x hx => ?_) (fun x hx => h x.2 (List.of_mem_zip hx).2)
  rw [List.eq_of_mem_replicate hx]
  decide
theorem A7d (n : Nat) : (List.replicate n [vN 0]).flatten = (List.replicate n 0).map vN := by
  induction n with
  | zero => rfl
  | succ n ih => rw [List.replicate_succ, List.flatten_cons, ih, List.replicate_succ, List.map_cons]; rfl
noncomputable def AKs (K : Frag) : Sp := fun vs H Q _ => ∃ (a b : Addr) (ps ds : List Nat), vs = [.ref a, .ref b] ∧ SqL K H a (ps.map vN) ∧ SqL K H b (ds.map vN) ∧ ps.length = ds.length ∧ (∀ p ∈ ps, p < 65536) ∧
  ∀ l H', H l = none → Same H H' → H' l = some (.lst ((memL ps ds).map vN)) → Q (.ref l) H'
theorem APw (T : Txt K mg) : Fn P w K mg base "memory_of" 1 ["places", "data"] (AKs K) := by
  refine T.ASz.fn AGw (fun _ _ _ _ _ _ => ln2 (fun _ _ => rfl)) (fun vs H Q E h => ?_) (fun f cdv A outer s H vs Q E hr h => ?_)
  · obtain ⟨a, b, ps, ds, rfl, _⟩ := h
    rfl
  obtain ⟨a, b, ps, ds, rfl, hA, hB, len, hps, k⟩ := h
  refine ⟨_, (@AAf _ _ _ _ _ (@ABk _ _ 2 _ _ _ _ AGw.nd rfl (Or.inl (lj ACc 1 rfl)) (@AAl _ _ _ _ _ _ _ _ BCx (@ASo _ _ _ _ (@AAa _ _ _ _ _ (pn 0) AAi rfl)) (@AAt _ _ _ _ T.c_SIZE (lj ACc 0 rfl) (nj nms0 13 rfl).1)) rfl (.inl rfl)) (@AAf _ _ _ _ _ (@AUh _ _ _ _ _ _ _ _ PassesOwn.never rfl (@BCe _ _ _ _ _ _ _ _ _ (lj ACc 4 rfl) T.n_zip (@AAa _ _ _ _ _ (pV 0 ACc 5 nms0 10 rfl rfl rfl) (@AAa _ _ _ _ _ (pV 1 ACc 6 nms0 11 rfl rfl rfl) AAi rfl) rfl) rfl rfl) (@BAo _ _ _ _ _ 2 rfl (@AUd _ _ _ _ _ (@AKf _ _ 3 _ AGw.nd rfl (Or.inl (lj ACc 3 rfl)) (.inl rfl)) (@AUd _ _ _ _ _ (@AKf _ _ 4 _ AGw.nd rfl (Or.inl (lj ACc 2 rfl)) (.inl rfl)) A79 rfl) rfl) rfl rfl) (@AAg _ _ _ (@ACn _ _ _ _ _ _ (pV 4 ACc 2 nms0 15 rfl rfl rfl) (@ACk _ _ _ _ _ _ _ (pV 2 ACc 1 nms0 14 rfl rfl rfl) (pV 3 ACc 3 nms0 16 rfl rfl rfl) set_list (by intros; rfl)) rfl rfl rfl)) (by intro _; rfl)) (@AAg _ _ _ (@AAw _ _ _ _ (pV 2 ACc 1 nms0 14 rfl rfl rfl))))), ?_⟩
  refine ⟨len1, fun p0 hp0 => ?_⟩
  refine ⟨_, _, _, rfl, rfl, AAv, by decide, by decide, by decide, fun l hl => ?_⟩
  have nl : H l = none := by
    have z := hl
    unfold upd at z
    split at z
    · cases z
    · exact z
  have s1 : Same H (upd (upd H p0 (.lst [vN 0])) l (.lst (List.replicate ((65536 : Nat) : Int).toNat [vN 0]).flatten)) := (ABm hp0).trans (ABm hl)
  refine ⟨_, rfl, _, rfl, _, _, _, _, rfl, s1.seq hA, s1.seq hB, ?_⟩
  refine A6t (xs := ps.map vN) (ys := ds.map vN) (by rw [List.length_map, List.length_map]; exact len)
    (fun i σ H' => ∃ x y, σ = [some (.ref a), some (.ref b), some (.ref l), x, y] ∧ Same H H' ∧ H' l = some (.lst ((((ps.zip ds).take i).foldl (fun m x => m.set x.1 x.2) (List.replicate 65536 0)).map vN)))
    ⟨_, _, rfl, s1, AAv.trans (by rw [A7d]; rfl)⟩ (fun i σ H' h => ?_) (fun _ _ _ _ _ => trivial) (fun i x y t σ H' hx hy ht h => ?_) (fun σ H' h => ?_)
  · obtain ⟨_, _, _, s2, _⟩ := h
    exact ⟨s2.seq hA, s2.seq hB⟩
  · obtain ⟨x0, y0, rfl, s2, h2⟩ := h
    rw [List.getElem?_map] at hx hy
    obtain ⟨px, ex, rfl⟩ := Option.map_eq_some_iff.mp hx
    obtain ⟨dy, ey, rfl⟩ := Option.map_eq_some_iff.mp hy
    have lt : t ≠ l := fun e => by rw [e, h2] at ht; cases ht
    refine ⟨t, _, rfl, .of AAv, rfl, _, _, rfl, _, _, rfl, rfl, ?_⟩
    refine ⟨_, rfl, _, rfl, _, rfl, l, _, _, px, rfl, rfl, (ABi (fun e => lt e.symm)).trans h2, ?_, ?_⟩
    · have hp := hps px (List.mem_of_getElem? ex)
      rw [List.length_map, AVi, List.length_replicate]
      unfold ixN
      rw [if_pos (Int.natCast_nonneg _), if_pos (by omega), Int.toNat_natCast]
    · refine ⟨_, _, rfl, fun c o e => ?_, AAv.trans ?_⟩
      · have lc : c ≠ l := ACb e nl
        rw [ABi lc, ABi (ACb (s2 c o e) ht)]
        exact s2 c o e
      · have ez : (ps.zip ds)[i]? = some (px, dy) := List.getElem?_zip_eq_some.mpr ⟨ex, ey⟩
        rw [List.take_add_one, ez, Option.toList_some, List.foldl_append, List.foldl_cons, List.foldl_nil, List.map_set]
  · obtain ⟨x0, y0, rfl, s2, h2⟩ := h
    refine ⟨_, rfl, k l H' nl s2 (h2.trans ?_)⟩
    rw [List.length_map, List.take_of_length_le (by rw [List.length_zip]; omega)]
    rfl
end
end Chip
namespace Chip
open PySem L2 LX
structure Mx where
  r : List Nat
  n : Bool
  z : Bool
  c : Bool
  v : Bool
  en : Nat
  on : Nat
  mem : List Nat
  bb : List (Nat × Nat)
  m0 : List Nat
structure Ad where
  dx : Addr
  ra : Addr
  ma : Addr
  ba : Addr
noncomputable def mks : List Str := ["regs", "negative", "zero", "carry", "wrong_sign", "end", "onward", "memory", "bytes_before"]
noncomputable abbrev vB (b : Bool) : V := vN (Sd12.toNat b)
noncomputable def mv (A : Ad) (M : Mx) : List V := [.ref A.ra, vB M.n, vB M.z, vB M.c, vB M.v, vN M.en, vN M.on, .ref A.ma, .ref A.ba]
noncomputable def mf (A : Ad) (M : Mx) : List (Str × V) := mks.zip (mv A M)
noncomputable def bbK (bb : List (Nat × Nat)) : List (Key × V) := bb.map fun p => (.inl (p.1 : Int), vN p.2)
noncomputable def was (M : Mx) (a : Nat) : Nat := ((M.bb.find? fun p => decide (p.1 = a)).map (·.2)).getD (M.mem.getD a 0)
theorem AFe : ∀ {ks : List Str} {vs : List V} {i : Nat} {k : Str} {v : V}, ks[i]? = some k → (ks.take i).all (fun x => !(x == k)) = true → vs[i]? = some v → (ks.zip vs).lookup k = some v
  | [], _, _, _, _, h, _, _ => by simp at h
  | _ :: _, [], _, _, _, _, _, h => by simp at h
  | q :: ks, x :: vs, 0, k, v, h, _, h2 => by
    obtain rfl : q = k := by simpa using h
    obtain rfl : x = v := by simpa using h2
    show (match q == q with | true => some x | false => _) = some x
    rw [beq_self_eq_true]
  | q :: ks, x :: vs, i + 1, k, v, h, n, h2 => by
    rw [List.take_succ_cons, List.all_cons, Bool.and_eq_true] at n
    have e : (k == q) = false := by
      have := n.1
      simp at this
      exact beq_eq_false_iff_ne.mpr fun e => this e.symm
    show (match k == q with | true => some x | false => List.lookup k (ks.zip vs)) = some v
    rw [e]
    exact AFe (by simpa using h) n.2 (by simpa using h2)
theorem AKe : ∀ {ks : List Str} {vs : List V} {i : Nat} {k : Str} (v : V), ks[i]? = some k → (ks.take i).all (fun x => !(x == k)) = true → i < vs.length → putF k v (ks.zip vs) = ks.zip (vs.set i v)
  | [], _, _, _, _, h, _, _ => by simp at h
  | _ :: _, [], _, _, _, _, _, h => by simp at h
  | q :: ks, x :: vs, 0, k, v, h, _, _ => by
    obtain rfl : q = k := by simpa using h
    show (if q = q then (q, v) :: ks.zip vs else _) = _
    rw [if_pos rfl]
    rfl
  | q :: ks, x :: vs, i + 1, k, v, h, n, h2 => by
    rw [List.take_succ_cons, List.all_cons, Bool.and_eq_true] at n
    have e : ¬ q = k := by
      have := n.1
      simpa using this
    show (if q = k then (q, v) :: ks.zip vs else (q, x) :: putF k v (ks.zip vs)) = _
    rw [if_neg e, AKe v (by simpa using h) n.2 (by simpa using h2)]
    rfl
theorem A1f : ∀ {ks : List Str} {vs : List V} {k : Str} (v : V), ks.all (fun x => !(x == k)) = true → ks.length = vs.length → putF k v (ks.zip vs) = (ks ++ [k]).zip (vs ++ [v])
  | [], [], k, v, _, _ => rfl
  | [], _ :: _, _, _, _, h => by cases h
  | _ :: _, [], _, _, _, h => by cases h
  | q :: ks, x :: vs, k, v, n, h => by
    rw [List.all_cons, Bool.and_eq_true] at n
    have e : ¬ q = k := by
      have := n.1
      simpa using this
    show (if q = k then (q, v) :: ks.zip vs else (q, x) :: putF k v (ks.zip vs)) = _
    rw [if_neg e, A1f v n.2 (Nat.succ.inj h)]
    rfl
theorem ARx {A : Ad} {M : Mx} : (mf A M).lookup ("regs" : Str) = some (.ref A.ra) := AFe (i := 0) rfl (by decide +kernel) rfl
theorem AI7 {A : Ad} {M : Mx} : (mf A M).lookup ("negative" : Str) = some (vB M.n) := AFe (i := 1) rfl (by decide +kernel) rfl
theorem ARv {A : Ad} {M : Mx} : (mf A M).lookup ("zero" : Str) = some (vB M.z) := AFe (i := 2) rfl (by decide +kernel) rfl
theorem AM9 {A : Ad} {M : Mx} : (mf A M).lookup ("carry" : Str) = some (vB M.c) := AFe (i := 3) rfl (by decide +kernel) rfl
theorem AHb {A : Ad} {M : Mx} : (mf A M).lookup ("wrong_sign" : Str) = some (vB M.v) := AFe (i := 4) rfl (by decide +kernel) rfl
theorem AP2 {A : Ad} {M : Mx} : (mf A M).lookup ("end" : Str) = some (vN M.en) := AFe (i := 5) rfl (by decide +kernel) rfl
theorem AR1 {A : Ad} {M : Mx} : (mf A M).lookup ("onward" : Str) = some (vN M.on) := AFe (i := 6) rfl (by decide +kernel) rfl
theorem AEx {A : Ad} {M : Mx} : (mf A M).lookup ("memory" : Str) = some (.ref A.ma) := AFe (i := 7) rfl (by decide +kernel) rfl
theorem AGc {A : Ad} {M : Mx} : (mf A M).lookup ("bytes_before" : Str) = some (.ref A.ba) := AFe (i := 8) rfl (by decide +kernel) rfl
theorem ASu {A : Ad} {M : Mx} {b : Bool} : putF "negative" (vB b) (mf A M) = mf A { M with n := b } := AKe (i := 1) _ rfl (by decide +kernel) (by show 1 < 9; decide)
theorem A57 {A : Ad} {M : Mx} {b : Bool} : putF "zero" (vB b) (mf A M) = mf A { M with z := b } := AKe (i := 2) _ rfl (by decide +kernel) (by show 2 < 9; decide)
theorem A31 {A : Ad} {M : Mx} {b : Bool} : putF "carry" (vB b) (mf A M) = mf A { M with c := b } := AKe (i := 3) _ rfl (by decide +kernel) (by show 3 < 9; decide)
theorem AO9 {A : Ad} {M : Mx} {b : Bool} : putF "wrong_sign" (vB b) (mf A M) = mf A { M with v := b } := AKe (i := 4) _ rfl (by decide +kernel) (by show 4 < 9; decide)
theorem BDd {A : Ad} {M : Mx} {k : Nat} : putF "end" (vN k) (mf A M) = mf A { M with en := k } := AKe (i := 5) _ rfl (by decide +kernel) (by show 5 < 9; decide)
theorem AYs {A : Ad} {M : Mx} {k : Nat} : putF "onward" (vN k) (mf A M) = mf A { M with on := k } := AKe (i := 6) _ rfl (by decide +kernel) (by show 6 < 9; decide)
theorem BC4 {A : Ad} {M : Mx} : (mf A M).length < 1000 := by
  show (mks.zip (mv A M)).length < 1000
  rw [List.length_zip]
  show min 9 9 < 1000
  decide
structure Cl (K : Frag) (C : Addr) : Prop where
  cls : Cls K C
  regs : AFl K C "regs"
  negative : AFl K C "negative"
  zero : AFl K C "zero"
  carry : AFl K C "carry"
  wrong_sign : AFl K C "wrong_sign"
  end_ : AFl K C "end"
  onward : AFl K C "onward"
  memory : AFl K C "memory"
  bytes_before : AFl K C "bytes_before"
structure MAt (C : Addr) (H : Hp) (m : Addr) (A : Ad) (M : Mx) : Prop where
  ins : H m = some (.ins C A.dx (mf A M))
  regs : H A.ra = some (.lst (M.r.map vN))
  mem : H A.ma = some (.lst (M.mem.map vN))
  bb : H A.ba = some (.dK (bbK M.bb))
  len : M.r.length = 16
  size : M.mem.length = 65536
  word : ∀ x ∈ M.r, x < 2 ^ 32
  byte : ∀ x ∈ M.mem, x < 256
  nd : (M.bb.map (·.1)).Nodup
  key : ∀ p ∈ M.bb, p.1 < 65536
  old : ∀ a, was M a = M.m0.getD a 0
noncomputable def Chg (A : Ad) (m : Addr) (H H' : Hp) : Prop := ∀ b o, H b = some o → b ≠ m → b ≠ A.ra → b ≠ A.ma → b ≠ A.ba → H' b = some o
theorem Chg.refl {A : Ad} {m : Addr} {H : Hp} : Chg A m H H := fun _ _ h _ _ _ _ => h
theorem Chg.trans {A : Ad} {m : Addr} {H H1 H2 : Hp} (a : Chg A m H H1) (b : Chg A m H1 H2) : Chg A m H H2 := fun c o h h1 h2 h3 h4 => b c o (a c o h h1 h2 h3 h4) h1 h2 h3 h4
section
variable {C : Addr} {H : Hp} {m : Addr} {A : Ad} {M : Mx}
theorem MAt.mra (h : MAt C H m A M) : m ≠ A.ra := APe h.ins h.regs fun z => nomatch z
theorem MAt.mma (h : MAt C H m A M) : m ≠ A.ma := APe h.ins h.mem fun z => nomatch z
theorem MAt.mba (h : MAt C H m A M) : m ≠ A.ba := APe h.ins h.bb fun z => nomatch z
theorem MAt.rama (h : MAt C H m A M) : A.ra ≠ A.ma := APe h.regs h.mem fun z => by
  have e := congrArg List.length (HO.lst.inj z)
  rw [List.length_map, List.length_map, h.len, h.size] at e
  cases e
theorem MAt.raba (h : MAt C H m A M) : A.ra ≠ A.ba := APe h.regs h.bb fun z => nomatch z
theorem MAt.maba (h : MAt C H m A M) : A.ma ≠ A.ba := APe h.mem h.bb fun z => nomatch z
theorem MAt.fld {M' : Mx} (h : MAt C H m A M) (e1 : M'.r = M.r) (e2 : M'.mem = M.mem) (e3 : M'.bb = M.bb) (e4 : M'.m0 = M.m0) : MAt C (upd H m (.ins C A.dx (mf A M'))) m A M' where
  ins := AAv
  regs := by rw [ABi h.mra.symm, e1]; exact h.regs
  mem := by rw [ABi h.mma.symm, e2]; exact h.mem
  bb := by rw [ABi h.mba.symm, e3]; exact h.bb
  len := by rw [e1]; exact h.len
  size := by rw [e2]; exact h.size
  word := by rw [e1]; exact h.word
  byte := by rw [e2]; exact h.byte
  nd := by rw [e3]; exact h.nd
  key := by rw [e3]; exact h.key
  old := fun a => by
    unfold was
    rw [e2, e3, e4]
    exact h.old a
theorem chg_m {o : HO} : Chg A m H (upd H m o) := fun b u e h1 _ _ _ => by rw [ABi h1]; exact e
theorem A9i {o : HO} : Chg A m H (upd H A.ra o) := fun b u e _ h1 _ _ => by rw [ABi h1]; exact e
theorem BA0 {o : HO} : Chg A m H (upd H A.ma o) := fun b u e _ _ h1 _ => by rw [ABi h1]; exact e
theorem BDi {o : HO} : Chg A m H (upd H A.ba o) := fun b u e _ _ _ h1 => by rw [ABi h1]; exact e
noncomputable def Mx.set (M : Mx) (d x : Nat) : Mx := { M with r := M.r.set d x }
theorem MAt.reg (h : MAt C H m A M) {d k : Nat} (hk : k < 2 ^ 32) : MAt C (upd H A.ra (.lst ((M.r.set d k).map vN))) m A (M.set d k) where
  ins := by rw [ABi h.mra]; exact h.ins
  regs := AAv
  mem := by rw [ABi h.rama.symm]; exact h.mem
  bb := by rw [ABi h.raba.symm]; exact h.bb
  len := by show (M.r.set d k).length = 16; rw [List.length_set]; exact h.len
  size := h.size
  word := fun x hx => by
    rcases List.mem_or_eq_of_mem_set hx with z | z
    · exact h.word x z
    · rw [z]; exact hk
  byte := h.byte
  nd := h.nd
  key := h.key
  old := h.old
theorem ACp (h : MAt C H m A M) (i : Nat) : M.r.getD i 0 < 2 ^ 32 := by
  rw [List.getD_eq_getElem?_getD]
  cases e : M.r[i]? with
  | none => show 0 < 2 ^ 32; decide
  | some v => exact h.word v (List.mem_of_getElem? e)
end
section
variable {σ : L2.St} {H : Hp} {i : Nat} {v : V} {ta tb ti : TE} {K : Frag} {C m : Addr} {A : Ad} {M : Mx} {x y : V} {n k : Nat}
theorem ADg {f : Str} (cl : Cl K C) (hM : MAt C H m A M) (hn : AFl K C f) (l : (mf A M).lookup f = some v) (ha : Is ta σ H (.ref m)) : Is (tFld K ta f) σ H v := fun Q q => ha _ ⟨m, C, _, _, v, rfl, hM.ins, cl.cls, hn, l, q⟩
theorem A8t (hM : MAt C H m A M) (hn : n < 16) : (M.r.map vN)[n]? = some (vN (M.r.getD n 0)) := AOw (by rw [hM.len]; exact hn)
theorem ASx (cl : Cl K C) (hM : MAt C H m A M) (ha : Is ta σ H (.ref m)) (hi : Is ti σ H (vN n)) (hn : n < 16) : Is (tOp (rIxL K) (tFld K ta "regs") ti) σ H (vN (M.r.getD n 0)) := fun Q q =>
  ADg cl hM cl.regs ARx ha _ (hi _ ⟨A.ra, _, _, _, rfl, rfl, .of hM.regs, atN (A8t hM hn), q⟩)
theorem A4p {l : List V} {j : Nat} (h : j < l.length) : ixN l.length (j : Int) = some j := by
  unfold ixN
  rw [if_pos (Int.natCast_nonneg _), if_pos (by omega), Int.toNat_natCast]
theorem AG3 {Q : L2.St → Hp → Prop} (cl : Cl K C) (hM : MAt C H m A M) (ha : Is ta σ H (.ref m)) (hi : Is ti σ H (vN n)) (hn : n < 16) (hk : k < 2 ^ 32) (q : ∀ H', Chg A m H H' → MAt C H' m A (M.set n k) → Q σ H') :
    gSub (tFld K ta "regs") ti A3e (vN k) σ H Q := ADg cl hM cl.regs ARx ha _ (hi _ ⟨A.ra, _, _, n, rfl, rfl, hM.regs, A4p (by rw [List.length_map, hM.len]; exact hn), by
      rw [← List.map_set]
      exact q _ A9i (hM.reg hk)⟩)
theorem ASa {f : Str} {D : Ends} {M' : Mx} {tv : TE} (cl : Cl K C) (hM : MAt C H m A M) (hn : AFl K C f) (hv : Is tv σ H v) (ha : Is ta σ H (.ref m)) (p : putF f v (mf A M) = mf A M') (e1 : M'.r = M.r) (e2 : M'.mem = M.mem) (e3 : M'.bb = M.bb) (e4 : M'.m0 = M.m0)
    (q : ∀ H', Chg A m H H' → MAt C H' m A M' → D.nx σ H') : sFld K ta tv f D σ H := hv _ (ha _ ⟨m, C, _, _, rfl, hM.ins, cl.cls, hn, BC4, by
      rw [p]
      exact q _ chg_m (hM.fld e1 e2 e3 e4)⟩)
theorem AGj {j : Nat} {te : TE} {u : TS} {D : Ends} (h : Is te σ H v) (q : u D (σ.set j (some v)) H) : tSeq (tAsg te (A1t j)) u D σ H := h _ q
theorem ARa {j : Nat} {sp : Sp} {t : TA} {vs : List V} {u : TS} {D : Ends} (h : IsA t σ H vs) (hs : sp vs H (fun v H' => u D (σ.set j (some v)) H') E0) : tSeq (tAsg (tFn sp t) (A1t j)) u D σ H := h _ hs
theorem ARj {sp : Sp} {t : TA} {vs : List V} {u : TS} {D : Ends} (h : IsA t σ H vs) (hs : sp vs H (fun _ H' => u D σ H') E0) : tSeq (AOi (tFn sp t)) u D σ H := h _ hs
theorem ATn {sp : Sp} {t : TA} {vs : List V} {D : Ends} (h : IsA t σ H vs) (hs : sp vs H (fun _ H' => D.nx σ H') E0) : AOi (tFn sp t) D σ H := h _ hs
theorem AOr {te : TE} {D : Ends} (h : Is te σ H v) (q : D.rt v H) : tRet te D σ H := h _ q
theorem A5b {g : Int → Int → Int} {a b : Int} (ha : Is ta σ H (.int a)) (hb : Is tb σ H (.int b)) : Is (tOp (rI0 fun i j => .int (g i j)) ta tb) σ H (.int (g a b)) := is_i ha hb
theorem A9h {g : Int → Int → Int} {d : Int → Int → Prop} {a b : Int} (ha : Is ta σ H (.int a)) (hb : Is tb σ H (.int b)) (h : d a b) : Is (tOp (rI d fun i j => .int (g i j)) ta tb) σ H (.int (g a b)) := BAk ha hb h
theorem ASp {D : Ends} {tv : TE} {b : Bool} (cl : Cl K C) (hM : MAt C H m A M) (hv : Is tv σ H (vB b)) (ha : Is ta σ H (.ref m)) (q : ∀ H', Chg A m H H' → MAt C H' m A { M with n := b } → D.nx σ H') : sFld K ta tv "negative" D σ H := ASa cl hM cl.negative hv ha ASu rfl rfl rfl rfl q
theorem A7b {D : Ends} {tv : TE} {b : Bool} (cl : Cl K C) (hM : MAt C H m A M) (hv : Is tv σ H (vB b)) (ha : Is ta σ H (.ref m)) (q : ∀ H', Chg A m H H' → MAt C H' m A { M with z := b } → D.nx σ H') : sFld K ta tv "zero" D σ H := ASa cl hM cl.zero hv ha A57 rfl rfl rfl rfl q
theorem A3l {D : Ends} {tv : TE} {b : Bool} (cl : Cl K C) (hM : MAt C H m A M) (hv : Is tv σ H (vB b)) (ha : Is ta σ H (.ref m)) (q : ∀ H', Chg A m H H' → MAt C H' m A { M with c := b } → D.nx σ H') : sFld K ta tv "carry" D σ H := ASa cl hM cl.carry hv ha A31 rfl rfl rfl rfl q
theorem A3t {D : Ends} {tv : TE} {b : Bool} (cl : Cl K C) (hM : MAt C H m A M) (hv : Is tv σ H (vB b)) (ha : Is ta σ H (.ref m)) (q : ∀ H', Chg A m H H' → MAt C H' m A { M with v := b } → D.nx σ H') : sFld K ta tv "wrong_sign" D σ H := ASa cl hM cl.wrong_sign hv ha AO9 rfl rfl rfl rfl q
theorem ASh {D : Ends} {tv : TE} (cl : Cl K C) (hM : MAt C H m A M) (hv : Is tv σ H (vN k)) (ha : Is ta σ H (.ref m)) (q : ∀ H', Chg A m H H' → MAt C H' m A { M with en := k } → D.nx σ H') : sFld K ta tv "end" D σ H := ASa cl hM cl.end_ hv ha BDd rfl rfl rfl rfl q
theorem A5d {D : Ends} {tv : TE} (cl : Cl K C) (hM : MAt C H m A M) (hv : Is tv σ H (vN k)) (ha : Is ta σ H (.ref m)) (q : ∀ H', Chg A m H H' → MAt C H' m A { M with on := k } → D.nx σ H') : sFld K ta tv "onward" D σ H := ASa cl hM cl.onward hv ha AYs rfl rfl rfl rfl q
theorem AMh {D : Ends} {u : TS} {tv : TE} {b : Bool} (cl : Cl K C) (hM : MAt C H m A M) (hv : Is tv σ H (vB b)) (ha : Is ta σ H (.ref m)) (q : ∀ H', Chg A m H H' → MAt C H' m A { M with n := b } → u D σ H') : tSeq (sFld K ta tv "negative") u D σ H := ASp (D := { D with nx := u D }) cl hM hv ha q
theorem A04 {D : Ends} {u : TS} {tv : TE} {b : Bool} (cl : Cl K C) (hM : MAt C H m A M) (hv : Is tv σ H (vB b)) (ha : Is ta σ H (.ref m)) (q : ∀ H', Chg A m H H' → MAt C H' m A { M with z := b } → u D σ H') : tSeq (sFld K ta tv "zero") u D σ H := A7b (D := { D with nx := u D }) cl hM hv ha q
theorem AKh {D : Ends} {u : TS} {tv : TE} {b : Bool} (cl : Cl K C) (hM : MAt C H m A M) (hv : Is tv σ H (vB b)) (ha : Is ta σ H (.ref m)) (q : ∀ H', Chg A m H H' → MAt C H' m A { M with c := b } → u D σ H') : tSeq (sFld K ta tv "carry") u D σ H := A3l (D := { D with nx := u D }) cl hM hv ha q
theorem A2a {D : Ends} {u : TS} {tv : TE} {b : Bool} (cl : Cl K C) (hM : MAt C H m A M) (hv : Is tv σ H (vB b)) (ha : Is ta σ H (.ref m)) (q : ∀ H', Chg A m H H' → MAt C H' m A { M with v := b } → u D σ H') : tSeq (sFld K ta tv "wrong_sign") u D σ H := A3t (D := { D with nx := u D }) cl hM hv ha q
theorem A7v {D : Ends} {u : TS} {tv : TE} (cl : Cl K C) (hM : MAt C H m A M) (hv : Is tv σ H (vN k)) (ha : Is ta σ H (.ref m)) (q : ∀ H', Chg A m H H' → MAt C H' m A { M with en := k } → u D σ H') : tSeq (sFld K ta tv "end") u D σ H := ASh (D := { D with nx := u D }) cl hM hv ha q
theorem sq_on {D : Ends} {u : TS} {tv : TE} (cl : Cl K C) (hM : MAt C H m A M) (hv : Is tv σ H (vN k)) (ha : Is ta σ H (.ref m)) (q : ∀ H', Chg A m H H' → MAt C H' m A { M with on := k } → u D σ H') : tSeq (sFld K ta tv "onward") u D σ H := A5d (D := { D with nx := u D }) cl hM hv ha q
end
noncomputable def KM (C : Addr) (A : Ad) (m : Addr) (H : Hp) (Q : VK) (v : V) (M' : Mx) : Prop := ∀ H', Chg A m H H' → MAt C H' m A M' → Q v H'
noncomputable def spH (C : Addr) (n : Nat) (R : Hp → Mx → List V → (V → Mx → Prop) → Prop) : Sp := fun vs H Q _ => ∃ m A M us, vs = .ref m :: us ∧ us.length = n ∧ MAt C H m A M ∧ R H M us (KM C A m H Q)
noncomputable abbrev spM (C : Addr) (n : Nat) (R : Mx → List V → (V → Mx → Prop) → Prop) : Sp := spH C n fun _ => R
theorem A7c {C : Addr} {n : Nat} {R : Hp → Mx → List V → (V → Mx → Prop) → Prop} {vs : List V} {H : Hp} {Q : VK} {E : XK} (h : spH C n R vs H Q E) : vs.length = n + 1 := by
  obtain ⟨m, A, M, us, rfl, e, _⟩ := h
  rw [List.length_cons, e]
theorem KM.next {C : Addr} {A : Ad} {m : Addr} {H H1 : Hp} {Q : VK} {v : V} {M : Mx} (k : KM C A m H Q v M) (c : Chg A m H H1) : KM C A m H1 Q v M := fun H' c' h => k H' (c.trans c') h
section
variable {P : Program} {w : World} {K : Frag} {mg : Str → Option Value} {base : Heap} {C : Addr}
theorem m_fn {x : Str} {st : Stmt} {N ps : List Str} {k n : Nat} {R : Hp → Mx → List V → (V → Mx → Prop) → Prop} (D : Def K mg x st) (S : AAh N ps (AAb st))
    (hb : ∀ (kV doc pm : Value) (an : Option Addr) (cdv ct : Value) (us : List Value), us.length = ps.length → bindArgs (fnOf x x (AEi st) (ACy st) (AAb st) .none kV doc pm an cdv ct) ⟨us, []⟩ = pure (ps.zip us)) (hn : n + 1 = ps.length)
    (body : ∀ (f : Addr) (cdv : Value) (A : Around) (outer : List Env) (s : Shared) (H : Hp) (m : Addr) (B : Ad) (M : Mx) (us : List V) (Q : VK) (E : XK), Room k (A.deeper (PyProof.Rows.envOfC x (AAb st) s.heap.objs.size f cdv)) → MAt C H m B M → R H M us (KM C B m H Q) →
      ∃ t, PSs (cxOf CX0 P w K mg base N x (AAb st) f cdv A outer s H E).nox (ACy st) t ∧ t { nx := fun _ H' => Q .non H', rt := Q } (start N (.ref m :: us)) H) : Fn P w K mg base x (k + 1) ps (spH C n R) := by
  refine D.fn S hb (fun vs H Q E h => (A7c h).trans hn) (fun f cdv A outer s H vs Q E hr h => ?_)
  obtain ⟨m, B, M, us, rfl, _, hM, h⟩ := h
  exact body f cdv A outer s H m B M us Q E hr hM h
end
end Chip
namespace Chip
open PySem L2 LX
section
variable {σ : L2.St} {H : Hp} {ta tb : TE} {c : TT} {a b : Bool} {x y : Nat} {v : V} {z : Int}
theorem AZo (ha : Is ta σ H (.bl a)) (hb : a = true → Is tb σ H (.bl b)) : Is (BEv ta tb) σ H (.bl (a && b)) := fun Q q => ha _ ⟨a, rfl, by
  cases a with
  | true => exact iteT (hb rfl Q q)
  | false => exact iteF q⟩
theorem BEn (ha : Is ta σ H (.bl a)) (hb : a = false → Is tb σ H (.bl b)) : Is (tOrV ta tb) σ H (.bl (a || b)) := fun Q q => ha _ ⟨a, rfl, by
  cases a with
  | true => exact iteT q
  | false => exact iteF (hb rfl Q q)⟩
theorem BBx (hc : Pure c σ H b) (ha : b = true → Is ta σ H v) (hb : b = false → Is tb σ H v) : Is (tIf c ta tb) σ H v := fun Q q => hc _ (by
  cases b with
  | true => exact iteT (ha rfl Q q)
  | false => exact iteF (hb rfl Q q))
noncomputable abbrev tW : TE := tC (.int ((4294967295 : Nat) : Int))
noncomputable abbrev oAnd : R2 := rN fun a b => a &&& b
noncomputable abbrev oShr : R2 := rN fun a b => a / 2 ^ b
noncomputable abbrev zAnd : R2 := rI0 fun i j => .int (Builtin.bitAnd i j)
theorem iW (ha : Is ta σ H (vN x)) : Is (tOp oAnd ta tW) σ H (vN (x % 2 ^ 32)) := AFw (is_n ha is_c) (congrArg vN (BCh x))
theorem zW (ha : Is ta σ H (.int z)) : Is (tOp zAnd ta tW) σ H (vN (z % 4294967296).toNat) := AFw (is_i ha is_c) (congrArg V.int (by
  show Builtin.bitAnd z 4294967295 = _
  rw [PyProof.Rows.bitAnd_m32]
  exact (Int.toNat_of_nonneg (Int.emod_nonneg _ (by decide))).symm))
theorem itop (ha : Is ta σ H (vN x)) (hx : x < 2 ^ 32) : Is (tOp oShr ta (tC (.int ((31 : Nat) : Int)))) σ H (vB (Sd12.bit x 31)) := AFw (is_n ha is_c) (congrArg vN (A1z hx))
theorem ibt (k : Nat) (ha : Is ta σ H (vN x)) : Is (tOp oAnd (tOp oShr ta (tC (.int (k : Int)))) (tC (.int ((1 : Nat) : Int)))) σ H (vB (Sd12.bit x k)) := AFw (is_n (is_n ha is_c) is_c) (congrArg vN (by rw [m1]; exact A00 x k))
theorem ixW (hx : x < 2 ^ 32) (ha : Is ta σ H (vN x)) : Is (tOp (rN fun a b => a ^^^ b) ta tW) σ H (vN (Sd12.not32 x)) := AFw (is_n ha is_c) (congrArg vN (A3p hx))
theorem is_zero (ha : Is ta σ H (vN x)) : Is (tIf (A50 (tOp rEq ta (tC (.int ((0 : Nat) : Int))))) (tC (.int ((1 : Nat) : Int))) (tC (.int ((0 : Nat) : Int)))) σ H (vB (x == 0)) := by
  refine BBx (ABg (ADa ha is_c)) (fun e => ?_) (fun e => ?_)
  · rw [decide_eq_true_eq] at e
    subst e
    exact is_c
  · refine AFw is_c ?_
    rw [beq_eq_false_iff_ne.mpr (of_decide_eq_false e)]
    rfl
theorem BEe (hb : y ≠ 0) (ha : Is ta σ H (.int z)) (hc : Is tb σ H (vN y)) : Is (tOp zAnd (tOp (rI (fun _ j => 0 ≤ j) fun i j => .int (i / 2 ^ j.toNat)) ta (tOp (rI0 fun i j => .int (i - j)) tb (tC (.int ((1 : Nat) : Int))))) (tC (.int ((1 : Nat) : Int)))) σ H (vB (decide (z / 2 ^ (y - 1) % 2 = 1))) := by
  have e1 : ((y : Int) - ((1 : Nat) : Int)) = ((y - 1 : Nat) : Int) := by omega
  refine AFw (is_i (BAk ha (is_i hc is_c) ?_) is_c) ?_
  · show (0 : Int) ≤ (y : Int) - ((1 : Nat) : Int)
    omega
  · show V.int (Builtin.bitAnd (z / 2 ^ ((y : Int) - ((1 : Nat) : Int)).toNat) 1) = vB _
    rw [e1, Int.toNat_natCast, PyProof.Rows.bitAnd_m1]
    generalize z / 2 ^ (y - 1) = u
    by_cases q : u % 2 = 1
    · rw [q]; rfl
    · rw [decide_eq_false q, show u % 2 = 0 from by omega]; rfl
end
theorem A8z (a k : Nat) : decide (((a : Nat) : Int) / 2 ^ k % 2 = 1) = Sd12.bit a k := by
  unfold Sd12.bit
  rw [pow_int, ← Int.natCast_ediv]
  generalize a / 2 ^ k = u
  rw [Bool.eq_iff_iff]
  simp only [beq_iff_eq, decide_eq_true_eq]
  omega
section
variable {P : Program} {w : World} {K : Frag} {mg : Str → Option Value} {base : Heap} {C : Addr}
noncomputable def Mx.nz (M : Mx) (x : Nat) : Mx := { M with n := Sd12.bit x 31, z := x == 0 }
noncomputable def Mx.nzcv (M : Mx) (x : Nat × Bool × Bool) : Mx := { M with n := Sd12.bit x.1 31, z := x.1 == 0, c := x.2.1, v := x.2.2 }
noncomputable def AKp (M : Mx) (us : List V) (k : V → Mx → Prop) : Prop := ∃ x : Nat, us = [vN x] ∧ x < 2 ^ 32 ∧ k (vN x) (M.nz x)
theorem ABv (T : Txt K mg) (cl : Cl K C) : Fn P w K mg base "result_of" 1 ["machine", "value"] (spM C 1 AKp) := by
  refine m_fn T.AS7 APl (fun _ _ _ _ _ _ => ln2 (fun _ _ => rfl)) rfl (fun f cdv A outer s H m B M us Q E hr hM h => ?_)
  obtain ⟨x, rfl, hx, k⟩ := h
  refine ⟨_, (@AAf _ _ _ _ _ (@ACs _ _ _ _ _ _ _ _ (pV 0 AFr 0 nms0 17 rfl rfl rfl) (@AAl _ _ _ _ _ _ _ _ AEj (pV 1 AFr 1 nms0 21 rfl rfl rfl) (pn 31)) rfl) (@AAf _ _ _ _ _ (@ACs _ _ _ _ _ _ _ _ (pV 0 AFr 0 nms0 17 rfl rfl rfl) (@AGo _ _ _ _ _ _ _ _ (@AAy _ _ _ _ _ _ _ _ AEl (pV 1 AFr 1 nms0 21 rfl rfl rfl) (pn 0) rfl) (pn 1) (pn 0)) rfl) (@AAg _ _ _ (@AAw _ _ _ _ (pV 1 AFr 1 nms0 21 rfl rfl rfl))))), ?_⟩
  refine AMh cl hM (by exact itop (AAc rfl) hx) (AAc rfl) fun H1 c1 hM1 => ?_
  refine A04 cl hM1 (by exact is_zero (x := x) (AAc rfl)) (AAc rfl) fun H2 c2 hM2 => ?_
  exact ⟨_, rfl, k H2 (c1.trans c2) hM2⟩
noncomputable def AU3 (M : Mx) (us : List V) (k : V → Mx → Prop) : Prop := ∃ a b c : Nat, us = [vN a, vN b, vN c] ∧ a < 2 ^ 32 ∧ b < 2 ^ 32 ∧ c < 2 ∧ k (vN (Sd12.add a b c).1) (M.nzcv (Sd12.add a b c))
theorem AGi (T : Txt K mg) (cl : Cl K C) : Fn P w K mg base "total_of" 1 ["machine", "a", "b", "carry"] (spM C 3 AU3) := by
  refine m_fn T.AXa AI9 (fun _ _ _ _ _ _ => ln4 (fun _ _ _ _ => rfl)) rfl (fun f cdv A outer s H m B M us Q E hr hM h => ?_)
  obtain ⟨a, b, c, rfl, ha, hb, hc, k⟩ := h
  refine ⟨_, (@AAf _ _ _ _ _ (@ABk _ _ 4 _ _ _ _ AI9.nd rfl (Or.inl (lj ABe 3 rfl)) (@AAl _ _ _ _ _ _ _ _ AHo (@AAl _ _ _ _ _ _ _ _ AHo (pV 1 ABe 0 nms3 2 rfl rfl rfl) (pV 2 ABe 1 nms3 3 rfl rfl rfl)) (pV 3 ABe 2 nms3 4 rfl rfl rfl)) rfl (.inl rfl)) (@AAf _ _ _ _ _ (@ABk _ _ 5 _ _ _ _ AI9.nd rfl (Or.inl (lj ABe 5 rfl)) (@AAl _ _ _ _ _ _ _ _ ABt (pV 4 ABe 3 nms3 5 rfl rfl rfl) (@AAt _ _ _ _ T.c_WORD (lj ABe 4 rfl) (nj nms0 23 rfl).1)) rfl (.inl rfl)) (@AAf _ _ _ _ _ (@ACs _ _ _ _ _ _ _ _ (pV 0 ABe 6 nms0 17 rfl rfl rfl) (@AAl _ _ _ _ _ _ _ _ AEj (pV 5 ABe 5 nms3 6 rfl rfl rfl) (pn 31)) rfl) (@AAf _ _ _ _ _ (@ACs _ _ _ _ _ _ _ _ (pV 0 ABe 6 nms0 17 rfl rfl rfl) (@AGo _ _ _ _ _ _ _ _ (@AAy _ _ _ _ _ _ _ _ AEl (pV 5 ABe 5 nms3 6 rfl rfl rfl) (pn 0) rfl) (pn 1) (pn 0)) rfl) (@AAf _ _ _ _ _ (@ACs _ _ _ _ _ _ _ _ (pV 0 ABe 6 nms0 17 rfl rfl rfl) (@AAl _ _ _ _ _ _ _ _ AEj (pV 4 ABe 3 nms3 5 rfl rfl rfl) (pn 32)) rfl) (@AAf _ _ _ _ _ (@ACs _ _ _ _ _ _ _ _ (pV 0 ABe 6 nms0 17 rfl rfl rfl) (@AAl _ _ _ _ _ _ _ _ AEj (@AAl _ _ _ _ _ _ _ _ ABt (@AAl _ _ _ _ _ _ _ _ ATe (pV 1 ABe 0 nms3 2 rfl rfl rfl) (pV 5 ABe 5 nms3 6 rfl rfl rfl)) (@AAl _ _ _ _ _ _ _ _ ATe (pV 2 ABe 1 nms3 3 rfl rfl rfl) (pV 5 ABe 5 nms3 6 rfl rfl rfl))) (pn 31)) rfl) (@AAg _ _ _ (@AAw _ _ _ _ (pV 5 ABe 5 nms3 6 rfl rfl rfl))))))))), ?_⟩
  refine AGj (is_n (is_n (AAc rfl) (AAc rfl)) (AAc rfl)) ?_
  refine AGj (iW (x := a + b + c) (AAc rfl)) ?_
  have hx := AYx a b c
  refine AMh cl hM (by exact itop (x := (Sd12.add a b c).1) (AAc rfl) hx) (AAc rfl) fun H1 c1 hM1 => ?_
  refine A04 cl hM1 (by exact is_zero (x := (Sd12.add a b c).1) (AAc rfl)) (AAc rfl) fun H2 c2 hM2 => ?_
  refine AKh (b := (Sd12.add a b c).2.1) cl hM2 (by exact AFw (is_n (x := a + b + c) (AAc rfl) is_c) (congrArg vN (AY1 ha hb hc))) (AAc rfl) fun H3 c3 hM3 => ?_
  refine A2a (b := (Sd12.add a b c).2.2) cl hM3 (by exact AFw (is_n (is_n (is_n (x := a) (y := (Sd12.add a b c).1) (AAc rfl) (AAc rfl)) (is_n (x := b) (y := (Sd12.add a b c).1) (AAc rfl) (AAc rfl))) is_c) (congrArg vN (A4b ha hb))) (AAc rfl) fun H4 c4 hM4 => ?_
  exact ⟨_, rfl, k H4 (((c1.trans c2).trans c3).trans c4) hM4⟩
noncomputable def A3a (M : Mx) (us : List V) (k : V → Mx → Prop) : Prop := ∃ a b : Nat, us = [vN a, vN b] ∧ a < 2 ^ 32 ∧ b < 2 ^ 32 ∧ k (vN (Sd12.add a (Sd12.not32 b) 1).1) (M.nzcv (Sd12.add a (Sd12.not32 b) 1))
theorem AFt (T : Txt K mg) (cl : Cl K C) : Fn P w K mg base "difference_of" 2 ["machine", "a", "b"] (spM C 2 A3a) := by
  have G_total_of := AGi (P := P) (w := w) (base := base) T cl
  refine m_fn T.AMa ALi (fun _ _ _ _ _ _ => ln3 (fun _ _ _ => rfl)) rfl (fun f cdv A outer s H m B M us Q E hr hM h => ?_)
  obtain ⟨a, b, rfl, ha, hb, k⟩ := h
  refine ⟨_, (@AAg _ _ _ (@AAw _ _ _ _ (@ABy _ _ _ _ _ _ _ _ _ _ G_total_of (hmo hr) (lj AC6 0 rfl) (@AAa _ _ _ _ _ (pV 0 AC6 1 nms0 17 rfl rfl rfl) (@AAa _ _ _ _ _ (pV 1 AC6 2 nms3 2 rfl rfl rfl) (@AAa _ _ _ _ _ (@AAl _ _ _ _ _ _ _ _ ATe (pV 2 AC6 3 nms3 3 rfl rfl rfl) (@AAt _ _ _ _ T.c_WORD (lj AC6 4 rfl) (nj nms0 23 rfl).1)) (@AAa _ _ _ _ _ (pn 1) AAi rfl) rfl) rfl) rfl) (nj nms3 7 rfl).1 rfl rfl))), ?_⟩
  refine AJv (AAe (AAc rfl) (AAe (AAc rfl) (AAe (ixW hb (AAc rfl)) (AAe is_c AAs)))) ?_
  exact ⟨m, B, M, _, rfl, rfl, hM, a, _, 1, rfl, ha, not_lt b, by decide, k⟩
noncomputable def AMj (kind : Nat) (M : Mx) (us : List V) (k : V → Mx → Prop) : Prop := ∃ a b : Nat, us = [vN a, vN b] ∧ a < 2 ^ 32 ∧ b < 256 ∧ k (vN (Sd12.shift kind a b M.c).1) { M with c := (Sd12.shift kind a b M.c).2 }
theorem A34 (kind a : Nat) (c : Bool) : Sd12.shift kind a 0 c = (a, c) := by
  unfold Sd12.shift
  rw [if_pos rfl]
theorem AMq {kind a b : Nat} {σ : L2.St} {H : Hp} {m : Addr} {B : Ad} {M : Mx} {u : TS} {D : Ends} (hM : MAt C H m B M) (e1 : σ[1]? = some (some (vN a))) (e2 : σ[2]? = some (some (vN b))) (k : KM C B m H D.rt (vN (Sd12.shift kind a b M.c).1) { M with c := (Sd12.shift kind a b M.c).2 }) (hu : b ≠ 0 → u D σ H) :
    tSeq (tIfS (A50 (tOp rEq (tVar 2) (tC (.int ((0 : Nat) : Int))))) (tRet (tVar 1)) A55) u D σ H := by
  refine ifsP (p := b = 0) (ABg (ADa (AAc e2) is_c)) (fun e => ?_) hu
  subst e
  rw [A34] at k
  exact ⟨_, e1, k H Chg.refl hM⟩
theorem AL4 (T : Txt K mg) (cl : Cl K C) : Fn P w K mg base "shifted_left" 1 ["machine", "value", "by"] (spM C 2 (AMj 0)) := by
  refine m_fn T.AOf AHw (fun _ _ _ _ _ _ => ln3 (fun _ _ _ => rfl)) rfl (fun f cdv A outer s H m B M us Q E hr hM h => ?_)
  obtain ⟨a, b, rfl, ha, hb, k⟩ := h
  refine ⟨_, (@AAf _ _ _ _ _ (@AEn _ _ _ _ _ _ _ _ (@AAy _ _ _ _ _ _ _ _ AEl (pV 2 ABp 0 nms3 8 rfl rfl rfl) (pn 0) rfl) (@AAg _ _ _ (@AAw _ _ _ _ (pV 1 ABp 1 nms0 21 rfl rfl rfl))) ABf) (@AAf _ _ _ _ _ (@ABk _ _ 3 _ _ _ _ AHw.nd rfl (Or.inl (lj ABp 2 rfl)) (@AAl _ _ _ _ _ _ _ _ AX1 (pV 1 ABp 1 nms0 21 rfl rfl rfl) (pV 2 ABp 0 nms3 8 rfl rfl rfl)) rfl (.inl rfl)) (@AAf _ _ _ _ _ (@ACs _ _ _ _ _ _ _ _ (pV 0 ABp 3 nms0 17 rfl rfl rfl) (@AAl _ _ _ _ _ _ _ _ ABt (@AAl _ _ _ _ _ _ _ _ AEj (pV 3 ABp 2 nms3 9 rfl rfl rfl) (pn 32)) (pn 1)) rfl) (@AAg _ _ _ (@AAw _ _ _ _ (@AAl _ _ _ _ _ _ _ _ ABt (pV 3 ABp 2 nms3 9 rfl rfl rfl) (@AAt _ _ _ _ T.c_WORD (lj ABp 4 rfl) (nj nms0 23 rfl).1))))))), ?_⟩
  refine AMq hM rfl rfl k fun e => ?_
  rw [A8d ha e] at k
  refine AGj (AIw (d := Sm) (AAc rfl) (AAc rfl) ⟨Nat.lt_trans ha (by decide), Nat.le_trans (Nat.le_of_lt hb) (by decide)⟩) ?_
  refine AKh cl hM (by exact ibt (x := a * 2 ^ b) 32 (AAc rfl)) (AAc rfl) fun H1 c1 hM1 => ?_
  exact AOr (iW (x := a * 2 ^ b) (AAc rfl)) (k H1 c1 hM1)
theorem AK3 (T : Txt K mg) (cl : Cl K C) : Fn P w K mg base "shifted_right" 1 ["machine", "value", "by"] (spM C 2 (AMj 1)) := by
  refine m_fn T.AMb AKv (fun _ _ _ _ _ _ => ln3 (fun _ _ _ => rfl)) rfl (fun f cdv A outer s H m B M us Q E hr hM h => ?_)
  obtain ⟨a, b, rfl, ha, hb, k⟩ := h
  refine ⟨_, (@AAf _ _ _ _ _ (@AEn _ _ _ _ _ _ _ _ (@AAy _ _ _ _ _ _ _ _ AEl (pV 2 AB1 0 nms3 8 rfl rfl rfl) (pn 0) rfl) (@AAg _ _ _ (@AAw _ _ _ _ (pV 1 AB1 1 nms0 21 rfl rfl rfl))) ABf) (@AAf _ _ _ _ _ (@ACs _ _ _ _ _ _ _ _ (pV 0 AB1 2 nms0 17 rfl rfl rfl) (@AAl _ _ _ _ _ _ _ _ AG8 (@AAl _ _ _ _ _ _ _ _ AY5 (pV 1 AB1 1 nms0 21 rfl rfl rfl) (@AAl _ _ _ _ _ _ _ _ AMt (pV 2 AB1 0 nms3 8 rfl rfl rfl) (pn 1))) (pn 1)) rfl) (@AAg _ _ _ (@AAw _ _ _ _ (@AAl _ _ _ _ _ _ _ _ AEj (pV 1 AB1 1 nms0 21 rfl rfl rfl) (pV 2 AB1 0 nms3 8 rfl rfl rfl)))))), ?_⟩
  refine AMq hM rfl rfl k fun e => ?_
  rw [A6s ha e, ← A8z] at k
  refine AKh cl hM (by exact BEe (y := b) (z := (a : Int)) e (AAc rfl) (AAc rfl)) (AAc rfl) fun H1 c1 hM1 => ?_
  exact AOr (is_n (AAc rfl) (AAc rfl)) (k H1 c1 hM1)
theorem AH4 (T : Txt K mg) (cl : Cl K C) : Fn P w K mg base "shifted_with_sign" 2 ["machine", "value", "by"] (spM C 2 (AMj 2)) := by
  have G_with_sign := ACu (P := P) (w := w) (base := base) T
  refine m_fn T.AIv AFh (fun _ _ _ _ _ _ => ln3 (fun _ _ _ => rfl)) rfl (fun f cdv A outer s H m B M us Q E hr hM h => ?_)
  obtain ⟨a, b, rfl, ha, hb, k⟩ := h
  refine ⟨_, (@AAf _ _ _ _ _ (@AEn _ _ _ _ _ _ _ _ (@AAy _ _ _ _ _ _ _ _ AEl (pV 2 AAr 0 nms3 8 rfl rfl rfl) (pn 0) rfl) (@AAg _ _ _ (@AAw _ _ _ _ (pV 1 AAr 1 nms0 21 rfl rfl rfl))) ABf) (@AAf _ _ _ _ _ (@ABk _ _ 3 _ _ _ _ AFh.nd rfl (Or.inl (lj AAr 3 rfl)) (@ABy _ _ _ _ _ _ _ _ _ _ G_with_sign (hmo hr) (lj AAr 2 rfl) (@AAa _ _ _ _ _ (pV 1 AAr 1 nms0 21 rfl rfl rfl) (@AAa _ _ _ _ _ (pn 2147483648) AAi rfl) rfl) (nj nms2 13 rfl).1 rfl rfl) rfl (.inl rfl)) (@AAf _ _ _ _ _ (@ACs _ _ _ _ _ _ _ _ (pV 0 AAr 4 nms0 17 rfl rfl rfl) (@AAl _ _ _ _ _ _ _ _ AG8 (@AAl _ _ _ _ _ _ _ _ AY5 (pV 3 AAr 3 nms3 10 rfl rfl rfl) (@AAl _ _ _ _ _ _ _ _ AMt (pV 2 AAr 0 nms3 8 rfl rfl rfl) (pn 1))) (pn 1)) rfl) (@AAg _ _ _ (@AAw _ _ _ _ (@AAl _ _ _ _ _ _ _ _ AG8 (@AAl _ _ _ _ _ _ _ _ AY5 (pV 3 AAr 3 nms3 10 rfl rfl rfl) (pV 2 AAr 0 nms3 8 rfl rfl rfl)) (@AAt _ _ _ _ T.c_WORD (lj AAr 5 rfl) (nj nms0 23 rfl).1))))))), ?_⟩
  refine AMq hM rfl rfl k fun e => ?_
  rw [A80 (AMf a 31) ha e] at k
  refine ARa (AAe (AAc rfl) (AAe is_c AAs)) ⟨a, 2147483648, rfl, ?_⟩
  refine AKh cl hM (by exact BEe (y := b) (z := sgn a) e (AAc rfl) (AAc rfl)) (AAc rfl) fun H1 c1 hM1 => ?_
  exact AOr (zW (A9h (a := sgn a) (b := (b : Int)) (AAc rfl) (AAc rfl) (Int.natCast_nonneg b))) (k H1 c1 hM1)
theorem ALx (T : Txt K mg) (cl : Cl K C) : Fn P w K mg base "turned_right" 1 ["machine", "value", "by"] (spM C 2 (AMj 3)) := by
  refine m_fn T.AOg AF8 (fun _ _ _ _ _ _ => ln3 (fun _ _ _ => rfl)) rfl (fun f cdv A outer s H m B M us Q E hr hM h => ?_)
  obtain ⟨a, b, rfl, ha, hb, k⟩ := h
  refine ⟨_, (@AAf _ _ _ _ _ (@AEn _ _ _ _ _ _ _ _ (@AAy _ _ _ _ _ _ _ _ AEl (pV 2 AA9 0 nms3 8 rfl rfl rfl) (pn 0) rfl) (@AAg _ _ _ (@AAw _ _ _ _ (pV 1 AA9 1 nms0 21 rfl rfl rfl))) ABf) (@AAf _ _ _ _ _ (@ABk _ _ 3 _ _ _ _ AF8.nd rfl (Or.inl (lj AA9 2 rfl)) (@AAl _ _ _ _ _ _ _ _ A2j (pV 2 AA9 0 nms3 8 rfl rfl rfl) (pn 32)) rfl (.inl rfl)) (@AAf _ _ _ _ _ (@ABk _ _ 4 _ _ _ _ AF8.nd rfl (Or.inl (lj AA9 4 rfl)) (@AAl _ _ _ _ _ _ _ _ AG8 (@AAl _ _ _ _ _ _ _ _ BEb (@AAl _ _ _ _ _ _ _ _ AEj (pV 1 AA9 1 nms0 21 rfl rfl rfl) (pV 3 AA9 2 nms3 11 rfl rfl rfl)) (@AAl _ _ _ _ _ _ _ _ A7w (pV 1 AA9 1 nms0 21 rfl rfl rfl) (@AAl _ _ _ _ _ _ _ _ AMt (pn 32) (pV 3 AA9 2 nms3 11 rfl rfl rfl)))) (@AAt _ _ _ _ T.c_WORD (lj AA9 3 rfl) (nj nms0 23 rfl).1)) rfl (.inl rfl)) (@AAf _ _ _ _ _ (@ACs _ _ _ _ _ _ _ _ (pV 0 AA9 5 nms0 17 rfl rfl rfl) (@AAl _ _ _ _ _ _ _ _ AEj (pV 4 AA9 4 nms3 12 rfl rfl rfl) (pn 31)) rfl) (@AAg _ _ _ (@AAw _ _ _ _ (pV 4 AA9 4 nms3 12 rfl rfl rfl))))))), ?_⟩
  refine AMq hM rfl rfl k fun e => ?_
  rw [A8c ha e] at k
  have hr : b % 32 < 32 := Nat.mod_lt _ (by decide)
  have e1 : (((32 : Nat) : Int) - ((b % 32 : Nat) : Int)) = ((32 - b % 32 : Nat) : Int) := by omega
  refine AGj (AIw (AAc rfl) is_c (by show 0 < 32; decide)) ?_
  refine AGj (v := vN ((a / 2 ^ (b % 32) ||| a * 2 ^ (32 - b % 32)) % 2 ^ 32)) (AFw (zW (A5b (is_n (AAc rfl) (AAc rfl)) (A9h (AAc rfl) (A5b is_c (AAc rfl)) ?_))) ?_) ?_
  · show (0 : Int) ≤ ((32 : Nat) : Int) - ((b % 32 : Nat) : Int) ∧ ((32 : Nat) : Int) - ((b % 32 : Nat) : Int) ≤ 1000000 ∧ (a : Int).natAbs < 2 ^ 64
    rw [Int.natAbs_natCast]
    omega
  · show vN ((Builtin.bitOr ((a / 2 ^ (b % 32) : Nat) : Int) ((a : Int) * 2 ^ (((32 : Nat) : Int) - ((b % 32 : Nat) : Int)).toNat)) % 4294967296).toNat = _
    rw [e1, Int.toNat_natCast, pow_int, ← Int.natCast_mul, b_or]
    exact congrArg vN (by omega)
  refine AKh cl hM (by exact itop (x := (a / 2 ^ (b % 32) ||| a * 2 ^ (32 - b % 32)) % 2 ^ 32) (AAc rfl) (Nat.mod_lt _ (by decide))) (AAc rfl) fun H1 c1 hM1 => ?_
  exact ⟨_, rfl, k H1 c1 hM1⟩
end
end Chip
namespace Chip
open PySem L2 LX
theorem b1 (b : Bool) : decide (Sd12.toNat b = 1) = b := by cases b <;> rfl
theorem b0 (b : Bool) : decide (Sd12.toNat b = 0) = !b := by cases b <;> rfl
theorem b2 (a b : Bool) : decide (Sd12.toNat a = Sd12.toNat b) = (a == b) := by cases a <;> cases b <;> rfl
theorem AXw (a b : Bool) : decide (V.bl a = V.bl b) = (a == b) := by
  rw [Bool.eq_iff_iff, decide_eq_true_eq, beq_iff_eq, V.bl.injEq]
section
variable {σ : L2.St} {H : Hp} {ta tb : TE} {K : Frag} {C m : Addr} {A : Ad} {M : Mx} {a b : Bool} {x y : Nat} {z : Int}
theorem AQ2 {p : Prop} [Decidable p] {tc : TT} {t u : TS} {D : Ends} (hc : Pure tc σ H (decide p)) (h0 : p → t { D with nx := u D } σ H) (h1 : ¬ p → u D σ H) : tSeq (tIfS tc t A55) u D σ H := ifsP hc h0 h1
theorem fl1 {f : Str} (cl : Cl K C) (hM : MAt C H m A M) (hn : AFl K C f) (l : (mf A M).lookup f = some (vB b)) (ha : Is ta σ H (.ref m)) : Is (tOp rEq (tFld K ta f) (tC (.int ((1 : Nat) : Int)))) σ H (.bl b) := AFw (ADa (ADg cl hM hn l ha) is_c) (congrArg V.bl (b1 b))
theorem fl0 {f : Str} (cl : Cl K C) (hM : MAt C H m A M) (hn : AFl K C f) (l : (mf A M).lookup f = some (vB b)) (ha : Is ta σ H (.ref m)) : Is (tOp rEq (tFld K ta f) (tC (.int ((0 : Nat) : Int)))) σ H (.bl (!b)) := AFw (ADa (ADg cl hM hn l ha) is_c) (congrArg V.bl (b0 b))
theorem flnv (cl : Cl K C) (hM : MAt C H m A M) (ha : Is ta σ H (.ref m)) : Is (tOp rEq (tFld K ta "negative") (tFld K ta "wrong_sign")) σ H (.bl (M.n == M.v)) := AFw (ADa (ADg cl hM cl.negative AI7 ha) (ADg cl hM cl.wrong_sign AHb ha)) (congrArg V.bl (b2 M.n M.v))
theorem iFE (ha : Is ta σ H (.int z)) : Is (tOp zAnd ta (tC (.int ((4294967294 : Nat) : Int)))) σ H (vN ((z % 4294967296).toNat / 2 * 2)) := AFw (is_i ha is_c) (congrArg V.int (by
  show Builtin.bitAnd z 4294967294 = _
  rw [zfe]
  omega))
theorem iFC (ha : Is ta σ H (.int z)) : Is (tOp zAnd ta (tC (.int ((4294967292 : Nat) : Int)))) σ H (vN ((z % 4294967296).toNat / 4 * 4)) := AFw (is_i ha is_c) (congrArg V.int (by
  show Builtin.bitAnd z 4294967292 = _
  rw [zfc]
  omega))
end
section
variable {P : Program} {w : World} {K : Frag} {mg : Str → Option Value} {base : Heap} {C : Addr}
noncomputable def met (M : Mx) (p : Nat) : Bool := if p = 0 then M.z else if p = 1 then M.c else if p = 2 then M.n else if p = 3 then M.v else if p = 4 then M.c && !M.z else if p = 5 then M.n == M.v else !M.z && M.n == M.v
noncomputable def R_met (M : Mx) (us : List V) (k : V → Mx → Prop) : Prop := ∃ p : Nat, us = [vN p] ∧ k (.bl (met M p)) M
theorem AZr (T : Txt K mg) (cl : Cl K C) : Fn P w K mg base "is_met" 1 ["machine", "pair"] (spM C 1 R_met) := by
  refine m_fn T.A5i AYa (fun _ _ _ _ _ _ => ln2 (fun _ _ => rfl)) rfl (fun f cdv A outer s H m B M us Q E hr hM h => ?_)
  obtain ⟨p, rfl, k⟩ := h
  refine ⟨_, (@AAf _ _ _ _ _ (@AEn _ _ _ _ _ _ _ _ (@AAy _ _ _ _ _ _ _ _ AEl (pV 1 ACj 0 nms3 14 rfl rfl rfl) (pn 0) rfl) (@AAg _ _ _ (@AAw _ _ _ _ (@ADs _ _ _ _ _ _ _ _ AEl (@AAo _ _ _ _ _ (pV 0 ACj 1 nms0 17 rfl rfl rfl) rfl) (pn 1) rfl))) ABf) (@AAf _ _ _ _ _ (@AEn _ _ _ _ _ _ _ _ (@AAy _ _ _ _ _ _ _ _ AEl (pV 1 ACj 0 nms3 14 rfl rfl rfl) (pn 1) rfl) (@AAg _ _ _ (@AAw _ _ _ _ (@ADs _ _ _ _ _ _ _ _ AEl (@AAo _ _ _ _ _ (pV 0 ACj 1 nms0 17 rfl rfl rfl) rfl) (pn 1) rfl))) ABf) (@AAf _ _ _ _ _ (@AEn _ _ _ _ _ _ _ _ (@AAy _ _ _ _ _ _ _ _ AEl (pV 1 ACj 0 nms3 14 rfl rfl rfl) (pn 2) rfl) (@AAg _ _ _ (@AAw _ _ _ _ (@ADs _ _ _ _ _ _ _ _ AEl (@AAo _ _ _ _ _ (pV 0 ACj 1 nms0 17 rfl rfl rfl) rfl) (pn 1) rfl))) ABf) (@AAf _ _ _ _ _ (@AEn _ _ _ _ _ _ _ _ (@AAy _ _ _ _ _ _ _ _ AEl (pV 1 ACj 0 nms3 14 rfl rfl rfl) (pn 3) rfl) (@AAg _ _ _ (@AAw _ _ _ _ (@ADs _ _ _ _ _ _ _ _ AEl (@AAo _ _ _ _ _ (pV 0 ACj 1 nms0 17 rfl rfl rfl) rfl) (pn 1) rfl))) ABf) (@AAf _ _ _ _ _ (@AEn _ _ _ _ _ _ _ _ (@AAy _ _ _ _ _ _ _ _ AEl (pV 1 ACj 0 nms3 14 rfl rfl rfl) (pn 4) rfl) (@AAg _ _ _ (@AAw _ _ _ _ (@AYf _ _ _ _ _ _ _ (@ADs _ _ _ _ _ _ _ _ AEl (@AAo _ _ _ _ _ (pV 0 ACj 1 nms0 17 rfl rfl rfl) rfl) (pn 1) rfl) (@AVt _ _ _ _ _ (@ADs _ _ _ _ _ _ _ _ AEl (@AAo _ _ _ _ _ (pV 0 ACj 1 nms0 17 rfl rfl rfl) rfl) (pn 0) rfl))))) ABf) (@AAf _ _ _ _ _ (@AEn _ _ _ _ _ _ _ _ (@AAy _ _ _ _ _ _ _ _ AEl (pV 1 ACj 0 nms3 14 rfl rfl rfl) (pn 5) rfl) (@AAg _ _ _ (@AAw _ _ _ _ (@ADs _ _ _ _ _ _ _ _ AEl (@AAo _ _ _ _ _ (pV 0 ACj 1 nms0 17 rfl rfl rfl) rfl) (@AAo _ _ _ _ _ (pV 0 ACj 1 nms0 17 rfl rfl rfl) rfl) rfl))) ABf) (@AAg _ _ _ (@AAw _ _ _ _ (@AYf _ _ _ _ _ _ _ (@ADs _ _ _ _ _ _ _ _ AEl (@AAo _ _ _ _ _ (pV 0 ACj 1 nms0 17 rfl rfl rfl) rfl) (pn 0) rfl) (@AVt _ _ _ _ _ (@ADs _ _ _ _ _ _ _ _ AEl (@AAo _ _ _ _ _ (pV 0 ACj 1 nms0 17 rfl rfl rfl) rfl) (@AAo _ _ _ _ _ (pV 0 ACj 1 nms0 17 rfl rfl rfl) rfl) rfl))))))))))), ?_⟩
  have k := k H Chg.refl hM
  unfold met at k
  refine AQ2 (p := p = 0) (ABg (ADa (AAc rfl) is_c)) (fun e => ?_) (fun e => ?_)
  · rw [if_pos e] at k; exact AOr (fl1 cl hM cl.zero ARv (AAc rfl)) k
  rw [if_neg e] at k
  refine AQ2 (p := p = 1) (ABg (ADa (AAc rfl) is_c)) (fun e => ?_) (fun e => ?_)
  · rw [if_pos e] at k; exact AOr (fl1 cl hM cl.carry AM9 (AAc rfl)) k
  rw [if_neg e] at k
  refine AQ2 (p := p = 2) (ABg (ADa (AAc rfl) is_c)) (fun e => ?_) (fun e => ?_)
  · rw [if_pos e] at k; exact AOr (fl1 cl hM cl.negative AI7 (AAc rfl)) k
  rw [if_neg e] at k
  refine AQ2 (p := p = 3) (ABg (ADa (AAc rfl) is_c)) (fun e => ?_) (fun e => ?_)
  · rw [if_pos e] at k; exact AOr (fl1 cl hM cl.wrong_sign AHb (AAc rfl)) k
  rw [if_neg e] at k
  refine AQ2 (p := p = 4) (ABg (ADa (AAc rfl) is_c)) (fun e => ?_) (fun e => ?_)
  · rw [if_pos e] at k; exact AOr (AZo (fl1 cl hM cl.carry AM9 (AAc rfl)) fun _ => fl0 cl hM cl.zero ARv (AAc rfl)) k
  rw [if_neg e] at k
  refine AQ2 (p := p = 5) (ABg (ADa (AAc rfl) is_c)) (fun e => ?_) (fun e => ?_)
  · rw [if_pos e] at k; exact AOr (flnv cl hM (AAc rfl)) k
  rw [if_neg e] at k
  exact AOr (AZo (fl0 cl hM cl.zero ARv (AAc rfl)) fun _ => flnv cl hM (AAc rfl)) k
noncomputable def A9g (M : Mx) (us : List V) (k : V → Mx → Prop) : Prop := ∃ c : Nat, us = [vN c] ∧ k (.bl (Sd12.holds ⟨[], M.n, M.z, M.c, M.v, fun _ => 0⟩ c)) M
theorem AX2 (M : Mx) (c : Nat) : (!decide (V.bl (met M (c / 2)) = V.bl (decide (c % 2 = 1)))) = Sd12.holds ⟨[], M.n, M.z, M.c, M.v, fun _ => 0⟩ c := by
  show _ = (if c % 2 = 0 then met M (c / 2) else !met M (c / 2))
  rw [AXw]
  rcases Nat.mod_two_eq_zero_or_one c with e | e
  · rw [e, if_pos rfl]
    cases met M (c / 2) <;> rfl
  · rw [e, if_neg (by decide)]
    cases met M (c / 2) <;> rfl
theorem A3k (T : Txt K mg) (cl : Cl K C) : Fn P w K mg base "holds" 2 ["machine", "condition"] (spM C 1 A9g) := by
  have G_is_met := AZr (P := P) (w := w) (base := base) T cl
  refine m_fn T.A9z A3c (fun _ _ _ _ _ _ => ln2 (fun _ _ => rfl)) rfl (fun f cdv A outer s H m B M us Q E hr hM h => ?_)
  obtain ⟨c, rfl, k⟩ := h
  refine ⟨_, (@AAg _ _ _ (@AAw _ _ _ _ (@ADs _ _ _ _ _ _ _ _ A54 (@ABy _ _ _ _ _ _ _ _ _ _ G_is_met (hmo hr) (lj AM0 0 rfl) (@AAa _ _ _ _ _ (pV 0 AM0 1 nms0 17 rfl rfl rfl) (@AAa _ _ _ _ _ (@AAl _ _ _ _ _ _ _ _ AEj (pV 1 AM0 2 nms2 12 rfl rfl rfl) (pn 1)) AAi rfl) rfl) (nj nms3 13 rfl).1 rfl rfl) (@ADs _ _ _ _ _ _ _ _ AEl (@AAl _ _ _ _ _ _ _ _ A2j (pV 1 AM0 2 nms2 12 rfl rfl rfl) (pn 2)) (pn 1) rfl) rfl))), ?_⟩
  refine AJv (AAe (AAc rfl) (AAe (is_n (AAc rfl) is_c) AAs)) ⟨m, B, M, _, rfl, rfl, hM, c / 2, rfl, fun H1 c1 hM1 => ?_⟩
  refine ADa (AIw (AAc rfl) is_c (by show 0 < 2; decide)) is_c _ ⟨rfl, ?_⟩
  rw [AX2]
  exact k H1 c1 hM1
noncomputable def Mx.put (M : Mx) (d : Nat) (z : Int) : Mx := if d = 15 then { M with on := (z % 4294967296).toNat / 2 * 2 } else if d = 13 then M.set 13 ((z % 4294967296).toNat / 4 * 4) else M.set d (z % 4294967296).toNat
noncomputable def ATl (M : Mx) (us : List V) (k : V → Mx → Prop) : Prop := ∃ (d : Nat) (z : Int), us = [vN d, .int z] ∧ d < 16 ∧ k .non (M.put d z)
theorem AH6 (z : Int) : (z % 4294967296).toNat < 2 ^ 32 := by omega
theorem A0z {x y : Nat} (h : x < 2 ^ 32) (n : Nat) : x / n * n < 2 ^ 32 := Nat.lt_of_le_of_lt (Nat.div_mul_le_self _ _) h
theorem AF3 (T : Txt K mg) (cl : Cl K C) : Fn P w K mg base "set_register" 1 ["machine", "d", "value"] (spM C 2 ATl) := by
  refine m_fn T.AOc AL1 (fun _ _ _ _ _ _ => ln3 (fun _ _ _ => rfl)) rfl (fun f cdv A outer s H m B M us Q E hr hM h => ?_)
  obtain ⟨d, z, rfl, hd, k⟩ := h
  refine ⟨_, (@AAg _ _ _ (@AEn _ _ _ _ _ _ _ _ (@AAy _ _ _ _ _ _ _ _ AEl (pV 1 ABa 0 nms0 20 rfl rfl rfl) (@AAt _ _ _ _ T.c_PC (lj ABa 1 rfl) (nj nms0 9 rfl).1) rfl) (@AAg _ _ _ (@ACs _ _ _ _ _ _ _ _ (pV 0 ABa 2 nms0 17 rfl rfl rfl) (@AAl _ _ _ _ _ _ _ _ AG8 (pV 2 ABa 3 nms0 21 rfl rfl rfl) (pn 4294967294)) rfl)) (@AAg _ _ _ (@AEn _ _ _ _ _ _ _ _ (@AAy _ _ _ _ _ _ _ _ AEl (pV 1 ABa 0 nms0 20 rfl rfl rfl) (@AAt _ _ _ _ T.c_SP (lj ABa 4 rfl) (nj nms0 22 rfl).1) rfl) (@AAg _ _ _ (@ACn _ _ _ _ _ _ (@AAl _ _ _ _ _ _ _ _ AG8 (pV 2 ABa 3 nms0 21 rfl rfl rfl) (pn 4294967292)) (@ACk _ _ _ _ _ _ _ (@AAo _ _ _ _ _ (pV 0 ABa 2 nms0 17 rfl rfl rfl) rfl) (@AAt _ _ _ _ T.c_SP (lj ABa 4 rfl) (nj nms0 22 rfl).1) set_list (by intros; rfl)) rfl rfl rfl)) (@AAg _ _ _ (@ACn _ _ _ _ _ _ (@AAl _ _ _ _ _ _ _ _ AG8 (pV 2 ABa 3 nms0 21 rfl rfl rfl) (@AAt _ _ _ _ T.c_WORD (lj ABa 5 rfl) (nj nms0 23 rfl).1)) (@ACk _ _ _ _ _ _ _ (@AAo _ _ _ _ _ (pV 0 ABa 2 nms0 17 rfl rfl rfl) rfl) (pV 1 ABa 0 nms0 20 rfl rfl rfl) set_list (by intros; rfl)) rfl rfl rfl)))))), ?_⟩
  unfold Mx.put at k
  refine ifsP (p := d = 15) (ABg (ADa (AAc rfl) is_c)) (fun e => ?_) (fun e => ?_)
  · rw [if_pos e] at k
    exact A5d cl hM (iFE (AAc rfl)) (AAc rfl) k
  rw [if_neg e] at k
  refine ifsP (p := d = 13) (ABg (ADa (AAc rfl) is_c)) (fun e => ?_) (fun e => ?_)
  · rw [if_pos e] at k
    exact iFC (AAc rfl) _ (AG3 cl hM (AAc rfl) is_c (by decide) (A0z (y := 0) (AH6 z) 4) k)
  rw [if_neg e] at k
  exact zW (AAc rfl) _ (AG3 cl hM (AAc rfl) (AAc rfl) hd (AH6 z) k)
noncomputable def AOy : Sp := fun vs H Q _ => ∃ a n : Nat, vs = [vN a, vN n] ∧ 0 < n ∧ Q (.bl (!Sd12.place n a)) H
theorem AId (T : Txt K mg) : Fn P w K mg base "is_none" 1 ["place", "size"] AOy := by
  refine T.AZx.fn AT0 (fun _ _ _ _ _ _ => ln2 (fun _ _ => rfl)) (fun vs H Q E h => ?_) (fun f cdv A outer s H vs Q E hr h => ?_)
  · obtain ⟨a, n, rfl, _⟩ := h
    rfl
  obtain ⟨a, n, rfl, hn, k⟩ := h
  refine ⟨_, (@AAg _ _ _ (@AAw _ _ _ _ (@BEj _ _ _ _ _ _ _ (@ADs _ _ _ _ _ _ _ _ A54 (@AAl _ _ _ _ _ _ _ _ A2j (pV 0 AHa 0 nms0 16 rfl rfl rfl) (pV 1 AHa 1 nms1 0 rfl rfl rfl)) (pn 0) rfl) (@AVt _ _ _ _ _ (@ADs _ _ _ _ _ _ _ _ A6m (@AAl _ _ _ _ _ _ _ _ AHo (pV 0 AHa 0 nms0 16 rfl rfl rfl) (pV 1 AHa 1 nms1 0 rfl rfl rfl)) (@AAt _ _ _ _ T.c_SIZE (lj AHa 2 rfl) (nj nms0 13 rfl).1) rfl))))), ?_⟩
  refine AOr (BEn (AVy (AIw (AAc rfl) (AAc rfl) hn) is_c) fun _ => A3g (is_n (AAc rfl) (AAc rfl)) is_c) ?_
  have e : (!decide (a % n = 0) || decide (65536 < a + n)) = !Sd12.place n a := by
    unfold Sd12.place Sd12.SIZE
    rw [Bool.not_and]
    congr 1
    rw [← decide_not]
    exact decide_eq_decide.mpr Nat.not_le.symm
  rw [e]
  exact k
noncomputable def word (m : List Nat) (p : Nat) : Nat := half m p + 65536 * half m (p + 2)
noncomputable def AO1 (K : Frag) : Sp := fun vs H Q _ => ∃ (a : Addr) (m : List Nat) (p : Nat), vs = [.ref a, vN p] ∧ SqL K H a (m.map vN) ∧ (∀ x ∈ m, x < 256) ∧ p + 3 < m.length ∧ Q (vN (word m p)) H
theorem AKy (T : Txt K mg) : Fn P w K mg base "word_at" 2 ["memory", "place"] (AO1 K) := by
  have G_half_at := AIt (P := P) (w := w) (base := base) T
  refine T.AZz.fn AUs (fun _ _ _ _ _ _ => ln2 (fun _ _ => rfl)) (fun vs H Q E h => ?_) (fun f cdv A outer s H vs Q E hr h => ?_)
  · obtain ⟨a, m, p, rfl, _⟩ := h
    rfl
  obtain ⟨a, m, p, rfl, hm, hb, hl, k⟩ := h
  refine ⟨_, (@AAg _ _ _ (@AAw _ _ _ _ (@AAl _ _ _ _ _ _ _ _ n_or (@ABy _ _ _ _ _ _ _ _ _ _ G_half_at (hmo hr) (lj AGf 0 rfl) (@AAa _ _ _ _ _ (pV 0 AGf 1 nms0 14 rfl rfl rfl) (@AAa _ _ _ _ _ (pV 1 AGf 2 nms0 16 rfl rfl rfl) AAi rfl) rfl) (nj nms1 1 rfl).1 rfl rfl) (@AAl _ _ _ _ _ _ _ _ AX1 (@ABy _ _ _ _ _ _ _ _ _ _ G_half_at (hmo hr) (lj AGf 0 rfl) (@AAa _ _ _ _ _ (pV 0 AGf 1 nms0 14 rfl rfl rfl) (@AAa _ _ _ _ _ (@AAl _ _ _ _ _ _ _ _ AHo (pV 1 AGf 2 nms0 16 rfl rfl rfl) (pn 2)) AAi rfl) rfl) (nj nms1 1 rfl).1 rfl rfl) (pn 16))))), ?_⟩
  have l1 := half_lt hb p
  have l2 := half_lt hb (p + 2)
  refine AOr (v := vN (word m p)) (AFw (is_n (APf (v := vN (half m p)) (AAe (AAc rfl) (AAe (AAc rfl) AAs)) fun Q q => ⟨a, m, p, rfl, hm, hb, by omega, q⟩) (AIw (d := Sm) (APf (v := vN (half m (p + 2))) (AAe (AAc rfl) (AAe (is_n (AAc rfl) is_c) AAs)) fun Q q => ⟨a, m, p + 2, rfl, hm, hb, by omega, q⟩) is_c ⟨Nat.lt_trans l2 (by decide), by decide⟩)) ?_) k
  refine congrArg vN ?_
  show half m p ||| half m (p + 2) * 2 ^ 16 = half m p + 65536 * half m (p + 2)
  rw [Nat.or_comm, Nat.mul_comm, ← Nat.two_pow_add_eq_or_of_lt l1, Nat.add_comm]
noncomputable def AK8 (K : Frag) : Sp := fun vs H Q _ => ∃ (a : Nat) (p : Addr) (l : List Nat), vs = [vN a, .ref p] ∧ SqT K H p (l.map vN) ∧ l ≠ [] ∧ Q (.bl (decide (Sd12.place 4 a = false ∨ 65536 < a + 4 * l.length))) H
end
end Chip
namespace Chip
open PySem L2 LX
theorem APm {n : Nat} : ∀ {l : List Nat}, l.Nodup → (∀ x ∈ l, x < n) → l.length ≤ n := by
  induction n with
  | zero =>
    intro l _ h
    cases l with
    | nil => exact Nat.le_refl _
    | cons x _ => exact absurd (h x List.mem_cons_self) (Nat.not_lt_zero _)
  | succ n ih =>
    intro l nd h
    by_cases c : n ∈ l
    · have z := ih (nd.erase n) fun x hx => by
        have y := (List.Nodup.mem_erase_iff nd).mp hx
        exact Nat.lt_of_le_of_ne (Nat.le_of_lt_succ (h x y.2)) y.1
      rw [List.length_erase_of_mem c] at z
      omega
    · exact Nat.le_succ_of_le (ih nd fun x hx => Nat.lt_of_le_of_ne (Nat.le_of_lt_succ (h x hx)) fun e => c (e ▸ hx))
noncomputable def findB (bb : List (Nat × Nat)) (a : Nat) : Option Nat := (bb.find? fun p => decide (p.1 = a)).map (·.2)
noncomputable def Mx.note (M : Mx) (a : Nat) : Mx := { M with bb := if (findB M.bb a).isSome = true then M.bb else M.bb ++ [(a, M.mem.getD a 0)] }
noncomputable def Mx.byte (M : Mx) (a b : Nat) : Mx := { M.note a with mem := M.mem.set a b }
theorem AMm (a b : Nat) : ((Sum.inl (a : Int) : Key) = .inl (b : Int)) ↔ a = b := ⟨fun h => Int.ofNat.inj (Sum.inl.inj h), fun h => h ▸ rfl⟩
theorem A3z (bb : List (Nat × Nat)) (a : Nat) : valV (bbK bb) (.inl (a : Int)) = (findB bb a).map vN := by
  induction bb with
  | nil => rfl
  | cons p r ih =>
    by_cases e : p.1 = a
    · have z : valV (bbK (p :: r)) (.inl (a : Int)) = some (vN p.2) := AI0 (p := ((.inl (p.1 : Int) : Key), vN p.2)) (r := bbK r) ((AMm _ _).mpr e)
      rw [z]
      simp [findB, e]
    · have z : valV (bbK (p :: r)) (.inl (a : Int)) = valV (bbK r) (.inl (a : Int)) := AJh (p := ((.inl (p.1 : Int) : Key), vN p.2)) (r := bbK r) fun h => e ((AMm _ _).mp h)
      rw [z, ih]
      simp [findB, e]
theorem BCa {bb : List (Nat × Nat)} {a y : Nat} (h : findB bb a = none) : putK (bbK bb) (.inl (a : Int)) (vN y) = bbK (bb ++ [(a, y)]) := by
  unfold putK
  rw [ANj, A3z, h, if_neg (by decide)]
  unfold bbK
  rw [List.map_append]
  rfl
theorem AP8 {bb : List (Nat × Nat)} {a : Nat} : findB bb a = none ↔ a ∉ bb.map (·.1) := by
  unfold findB
  rw [Option.map_eq_none_iff, List.find?_eq_none, List.mem_map]
  constructor
  · rintro h ⟨p, hp, e⟩
    exact h p hp (decide_eq_true e)
  · intro h p hp e
    exact h ⟨p, hp, of_decide_eq_true e⟩
theorem AQ9 {bb : List (Nat × Nat)} {a y : Nat} (h : findB bb a = none) (b : Nat) : findB (bb ++ [(a, y)]) b = if b = a then some y else findB bb b := by
  unfold findB at *
  rw [List.find?_append]
  by_cases e : b = a
  · subst e
    rw [Option.map_eq_none_iff] at h
    rw [h, if_pos rfl]
    simp
  · rw [if_neg e, List.find?_cons_of_neg (by simpa using fun z => e z.symm), List.find?_nil, Option.or_none]
theorem ASc (M : Mx) (a : Nat) : was M a = (findB M.bb a).getD (M.mem.getD a 0) := rfl
theorem AGk {l : List Nat} {a b x : Nat} (h : a ≠ b) : (l.set a x).getD b 0 = l.getD b 0 := by
  rw [List.getD_eq_getElem?_getD, List.getD_eq_getElem?_getD, List.getElem?_set_ne h]
theorem AXu {M : Mx} {a y : Nat} (e : findB M.bb a = some y) : (M.note a).bb = M.bb := if_pos (by rw [e]; rfl)
theorem AX6 {M : Mx} {a : Nat} (e : findB M.bb a = none) : (M.note a).bb = M.bb ++ [(a, M.mem.getD a 0)] := if_neg (by rw [e]; exact Bool.false_ne_true)
theorem APs (M : Mx) (a b : Nat) : was (M.note a) b = was M b := by
  rw [ASc, ASc]
  show (findB (M.note a).bb b).getD (M.mem.getD b 0) = _
  cases e : findB M.bb a with
  | some y => rw [AXu e]
  | none =>
    rw [AX6 e, AQ9 e]
    by_cases c : b = a
    · subst c
      rw [if_pos rfl, e]
      rfl
    · rw [if_neg c]
theorem AZn (M : Mx) (a : Nat) : ∃ y, findB (M.note a).bb a = some y := by
  cases e : findB M.bb a with
  | some y => exact ⟨y, by rw [AXu e]; exact e⟩
  | none => exact ⟨_, by rw [AX6 e, AQ9 e, if_pos rfl]⟩
theorem A2e (M : Mx) (a x b : Nat) : was (M.byte a x) b = was M b := by
  rw [← APs M a b, ASc, ASc]
  show (findB (M.note a).bb b).getD ((M.mem.set a x).getD b 0) = (findB (M.note a).bb b).getD (M.mem.getD b 0)
  by_cases c : a = b
  · subst c
    obtain ⟨y, e⟩ := AZn M a
    rw [e]
    rfl
  · rw [AGk c]
theorem AZb {M : Mx} {a : Nat} (ha : a < 65536) (nd : (M.bb.map (·.1)).Nodup) (key : ∀ p ∈ M.bb, p.1 < 65536) : ((M.note a).bb.map (·.1)).Nodup ∧ ∀ p ∈ (M.note a).bb, p.1 < 65536 := by
  cases e : findB M.bb a with
  | some y => rw [AXu e]; exact ⟨nd, key⟩
  | none =>
    rw [AX6 e, List.map_append]
    refine ⟨List.nodup_append.mpr ⟨nd, by simp, fun x hx y hy => ?_⟩, fun p hp => ?_⟩
    · rintro rfl
      rw [List.map_cons, List.map_nil, List.mem_singleton] at hy
      have hy : x = a := hy
      subst hy
      exact AP8.mp e hx
    · rcases List.mem_append.mp hp with z | z
      · exact key p z
      · rw [List.mem_singleton.mp z]; exact ha
section
variable {σ : L2.St} {H : Hp} {ta ti tv : TE} {K : Frag} {C m : Addr} {A : Ad} {M : Mx} {a b : Nat} {u : TS} {D : Ends}
theorem MAt.mem_at (hM : MAt C H m A M) (ha : a < 65536) : (M.mem.map vN)[a]? = some (vN (M.mem.getD a 0)) := AOw (by rw [hM.size]; exact ha)
theorem MAt.bb_len (hM : MAt C H m A M) : (bbK M.bb).length < sizeLine := by
  unfold bbK
  rw [List.length_map]
  have z := APm hM.nd fun x hx => by
    obtain ⟨p, hp, rfl⟩ := List.mem_map.mp hx
    exact hM.key p hp
  rw [List.length_map] at z
  exact Nat.lt_of_le_of_lt z (by decide)
theorem MAt.noted (hM : MAt C H m A M) (ha : a < 65536) : ∃ H', Chg A m H H' ∧ MAt C H' m A (M.note a) ∧ ∀ Q : VK, (∀ v, Q v H') → (∀ v, valV (bbK M.bb) (.inl (a : Int)) = some v → Q v H) ∧ (valV (bbK M.bb) (.inl (a : Int)) = none → Q (vN (M.mem.getD a 0)) (upd H A.ba (.dK (putK (bbK M.bb) (.inl (a : Int)) (vN (M.mem.getD a 0)))))) := by
  rw [A3z]
  have hk := AZb (M := M) ha hM.nd hM.key
  cases e : findB M.bb a with
  | some y =>
    have en : M.note a = M := by
      show { M with bb := (M.note a).bb } = M
      rw [AXu e]
    rw [en]
    exact ⟨H, Chg.refl, hM, fun Q q => ⟨fun v _ => q v, fun z => (by cases z)⟩⟩
  | none =>
    rw [BCa e]
    have en := AX6 e
    refine ⟨_, BDi, ?_, fun Q q => ⟨fun v z => (by cases z), fun _ => q _⟩⟩
    exact { ins := by rw [ABi hM.mba]; exact hM.ins
            regs := by rw [ABi hM.raba]; exact hM.regs
            mem := by rw [ABi hM.maba]; exact hM.mem
            bb := by rw [AAv, en]
            len := hM.len
            size := hM.size
            word := hM.word
            byte := hM.byte
            nd := hk.1
            key := hk.2
            old := fun b => (APs M a b).trans (hM.old b) }
theorem A6j (cl : Cl K C) (hM : MAt C H m A M) (ha : Is ta σ H (.ref m)) (hi : Is ti σ H (vN a)) (h : a < 65536) (q : ∀ H', Chg A m H H' → MAt C H' m A (M.note a) → u D σ H') :
    tSeq (AOi (BD3 (tFld K ta "bytes_before") ti (tOp (rIxL K) (tFld K ta "memory") ti))) u D σ H := by
  obtain ⟨H', c, hM', f⟩ := hM.noted h
  refine ADg cl hM cl.bytes_before AGc ha _ ⟨A.ba, rfl, ?_, hi _ (AKr (ADg cl hM cl.memory AEx ha) hi (.of hM.mem) (hM.mem_at h) _ ?_)⟩
  · exact .inl ⟨_, .inl hM.bb⟩
  · obtain ⟨f1, f2⟩ := f (fun _ H'' => u D σ H'') fun _ => q H' c hM'
    exact ⟨_, .inl (a : Int), hM.bb, rfl, hM.bb_len, f1, f2⟩
theorem MAt.put (hM : MAt C H m A (M.note a)) (hb : b < 256) : MAt C (upd H A.ma (.lst ((M.mem.set a b).map vN))) m A (M.byte a b) where
  ins := by rw [ABi hM.mma]; exact hM.ins
  regs := by rw [ABi hM.rama]; exact hM.regs
  mem := AAv
  bb := by rw [ABi hM.maba.symm]; exact hM.bb
  len := hM.len
  size := by show (M.mem.set a b).length = 65536; rw [List.length_set]; exact hM.size
  word := hM.word
  byte := fun x hx => by
    rcases List.mem_or_eq_of_mem_set hx with z | z
    · exact hM.byte x z
    · rw [z]; exact hb
  nd := hM.nd
  key := hM.key
  old := fun c => (A2e M a b c).trans ((APs M a c).symm.trans (hM.old c))
theorem A6w (cl : Cl K C) (hM : MAt C H m A (M.note a)) (hv : Is tv σ H (vN b)) (ha : Is ta σ H (.ref m)) (hi : Is ti σ H (vN a)) (h : a < 65536) (hb : b < 256) (q : ∀ H', Chg A m H H' → MAt C H' m A (M.byte a b) → u D σ H') :
    tSeq (tAsg tv (gSub (tFld K ta "memory") ti A3e)) u D σ H :=
  hv _ (ADg cl hM cl.memory AEx ha _ (hi _ ⟨A.ma, _, _, a, rfl, rfl, hM.mem, A4p (by rw [List.length_map, hM.size]; exact h), by
    rw [← List.map_set]
    exact q _ BA0 (hM.put hb)⟩))
end
noncomputable def Mx.store (M : Mx) (p x : Nat) : Nat → Mx
  | 0 => M
  | i + 1 => (M.store p x i).byte (p + i) (x / 256 ^ i % 256)
noncomputable def R_put (M : Mx) (us : List V) (k : V → Mx → Prop) : Prop := ∃ p n x : Nat, us = [vN p, vN n, vN x] ∧ p + n ≤ 65536 ∧ k .non (M.store p x n)
section
variable {P : Program} {w : World} {K : Frag} {mg : Str → Option Value} {base : Heap} {C : Addr}
theorem A4z (x i : Nat) : x / 256 ^ i / 2 ^ 8 = x / 256 ^ (i + 1) := by
  show x / 256 ^ i / 256 = _
  rw [Nat.div_div_eq_div_mul, Nat.pow_succ]
theorem A4x {ta : TA} {g : TG} {tb : TS} {D : Ends} {σ : L2.St} {H : Hp} {p n : Nat} (h : IsA ta σ H [vN p, vN (p + n)]) (hb : p + n < 2 ^ 62) (Pv : Nat → L2.St → Hp → Prop) (h0 : Pv 0 σ H)
    (hs : ∀ i σ H, i < n → Pv i σ H → g (vN (p + i)) σ H fun σ2 H2 => tb { D with nx := Pv (i + 1), ct := Pv (i + 1), bk := D.nx } σ2 H2) (hd : ∀ σ H, Pv n σ H → D.nx σ H) : tFor (BEc ta) g tb D σ H := by
  refine h _ ⟨(p : Int), ((p + n : Nat) : Int), rfl, ⟨by omega, by omega, by omega, by omega⟩, ?_⟩
  rw [show (((p + n : Nat) : Int) - (p : Int)).toNat = n from by omega]
  exact AYr Pv h0 hs hd
theorem ALo (T : Txt K mg) (cl : Cl K C) : Fn P w K mg base "put_bytes" 1 ["machine", "place", "size", "value"] (spM C 3 R_put) := by
  refine m_fn T.AS0 AH3 (fun _ _ _ _ _ _ => ln4 (fun _ _ _ _ => rfl)) rfl (fun f cdv A outer s H m B M us Q E hr hM h => ?_)
  obtain ⟨p, n, x, rfl, hp, k⟩ := h
  refine ⟨_, (@AAg _ _ _ (@AUh _ _ _ _ _ _ _ _ PassesOwn.never rfl (@AYi _ _ _ _ _ _ _ (lj ABj 1 rfl) T.n_range (@AAa _ _ _ _ _ (pV 1 ABj 2 nms0 16 rfl rfl rfl) (@AAa _ _ _ _ _ (@AAl _ _ _ _ _ _ _ _ AHo (pV 1 ABj 2 nms0 16 rfl rfl rfl) (pV 2 ABj 3 nms1 0 rfl rfl rfl)) AAi rfl) rfl) rfl rfl) (@AKf _ _ 4 _ AH3.nd rfl (Or.inl (lj ABj 0 rfl)) (.inl rfl)) (@AAf _ _ _ _ _ (@ACe _ _ _ _ (@AYd _ _ _ _ _ _ _ _ _ (@AAo _ _ _ _ _ (pV 0 ABj 4 nms0 17 rfl rfl rfl) rfl) (pV 4 ABj 0 nms1 2 rfl rfl rfl) (@ACz _ _ _ _ _ _ _ AAz (@AAo _ _ _ _ _ (pV 0 ABj 4 nms0 17 rfl rfl rfl) rfl) (pV 4 ABj 0 nms1 2 rfl rfl rfl) (fun _ _ => rfl)) ⟨rfl, rfl, rfl, rfl⟩) rfl) (@AAf _ _ _ _ _ (@ACn _ _ _ _ _ _ (@AAl _ _ _ _ _ _ _ _ ABt (pV 3 ABj 5 nms0 21 rfl rfl rfl) (pn 255)) (@ACk _ _ _ _ _ _ _ (@AAo _ _ _ _ _ (pV 0 ABj 4 nms0 17 rfl rfl rfl) rfl) (pV 4 ABj 0 nms1 2 rfl rfl rfl) set_list (by intros; rfl)) rfl rfl rfl) (@AAg _ _ _ (@ABk _ _ 3 _ _ _ _ AH3.nd rfl (Or.inl (lj ABj 5 rfl)) (@AAl _ _ _ _ _ _ _ _ AEj (pV 3 ABj 5 nms0 21 rfl rfl rfl) (pn 8)) rfl (.inl rfl))))) (by intro _; rfl))), ?_⟩
  refine A4x (p := p) (n := n) (AAe (AAc rfl) (AAe (is_n (AAc rfl) (AAc rfl)) AAs)) (by omega) (fun i σ H' => Chg B m H H' ∧ MAt C H' m B (M.store p x i) ∧ ∃ o, σ = [some (.ref m), some (vN p), some (vN n), some (vN (x / 256 ^ i)), o]) ⟨Chg.refl, hM, none, by rw [Nat.pow_zero, Nat.div_one]; rfl⟩ (fun i σ H' hi hPv => ?_) (fun σ H' hPv => k H' hPv.1 hPv.2.1)
  obtain ⟨c1, hM1, o, rfl⟩ := hPv
  have hpi : p + i < 65536 := Nat.lt_of_lt_of_le (Nat.add_lt_add_left hi p) hp
  refine A6j (a := p + i) cl hM1 (AAc rfl) (AAc rfl) hpi fun H2 c2 hM2 => ?_
  refine A6w (a := p + i) cl hM2 (by exact i255 (AAc rfl)) (AAc rfl) (AAc rfl) hpi (Nat.mod_lt _ (by decide)) fun H3 c3 hM3 => ?_
  refine is_n (x := x / 256 ^ i) (y := 8) (AAc rfl) is_c _ ⟨(c1.trans c2).trans c3, hM3, some (vN (p + i)), ?_⟩
  rw [A4z]
  rfl
end
end Chip
namespace Chip
open PySem L2 LX
section
variable {σ : L2.St} {H H' : Hp} {ta tb ti : TE} {K : Frag} {C m t : Addr} {A : Ad} {M : Mx} {xs : List V} {l : List Nat}
theorem MAt.tup_ne (hM : MAt C H m A M) {o : HO} (h : H t = some o) (n1 : ∀ d fs, o ≠ .ins C d fs) (n2 : ∀ ys, o ≠ .lst ys) (n3 : ∀ ys, o ≠ .dK ys) : t ≠ m ∧ t ≠ A.ra ∧ t ≠ A.ma ∧ t ≠ A.ba :=
  ⟨APe h hM.ins (n1 _ _), APe h hM.regs (n2 _), APe h hM.mem (n2 _), APe h hM.bb (n3 _)⟩
theorem AOm (hM : MAt C H m A M) (c : Chg A m H H') (h : SqT K H t xs) : SqT K H' t xs := by
  rcases h with h | h
  · rcases h with h | ⟨o, h⟩
    · obtain ⟨a1, a2, a3, a4⟩ := hM.tup_ne h (fun _ _ z => by cases z) (fun _ z => by cases z) (fun _ z => by cases z)
      exact .inl (.inl (c _ _ h a1 a2 a3 a4))
    · obtain ⟨a1, a2, a3, a4⟩ := hM.tup_ne h (fun _ _ z => by cases z) (fun _ z => by cases z) (fun _ z => by cases z)
      exact .inl (.inr ⟨o, c _ _ h a1 a2 a3 a4⟩)
  · exact .inr h
theorem A6y (ha : Is ta σ H (.ref t)) (hT : SqT K H t (l.map vN)) : Is (tCB (fun xs H Q => ∃ p ys, xs = [V.ref p] ∧ (SqL K H p ys ∨ SqT K H p ys) ∧ Q (.int ys.length) H) (ABx ta tNil)) σ H (vN l.length) := fun Q q => ha _ ⟨t, _, rfl, .inr hT, by
  rw [List.length_map]
  exact q⟩
end
noncomputable def ws (v s : Nat) : Nat := (((v : Int) - 2 * ((v &&& s : Nat) : Int)) % 4294967296).toNat
theorem A8q (v s : Nat) : ws v s < 2 ^ 32 := AH6 _
theorem ATt {m : List Nat} (h : ∀ x ∈ m, x < 256) (p : Nat) : word m p < 2 ^ 32 := by
  have l1 := half_lt h p
  have l2 := half_lt h (p + 2)
  unfold word
  omega
theorem ALh {n p : Nat} (h : Sd12.place n p = true) : p + n ≤ 65536 := of_decide_eq_true (Bool.and_eq_true_iff.mp h).2
noncomputable def Mx.bad (M : Mx) : Mx := { M with en := 2 }
section
variable {P : Program} {w : World} {K : Frag} {mg : Str → Option Value} {base : Heap} {C : Addr}
theorem AM2 {σ : L2.St} {H : Hp} {ta te tp : TE} {m : Addr} {B : Ad} {M : Mx} {p n : Nat} {u : TS} {D : Ends} {M' : Mx} (cl : Cl K C) (hM : MAt C H m B M) (ha : Is ta σ H (.ref m)) (hp : Is tp σ H (vN p)) (he : Is te σ H (vN n)) (hn : 0 < n)
    (k1 : ∀ H', Chg B m H H' → MAt C H' m B (if Sd12.place n p = true then M' else M.bad) → D.nx σ H') (hu : Sd12.place n p = true → (∀ H', Chg B m H H' → MAt C H' m B M' → D.nx σ H') → u D σ H) :
    tIfS (tB (tFn AOy (ABx tp (ABx te tNil)))) (sFld K ta (tC (.int ((2 : Nat) : Int))) "end") u D σ H := by
  refine ifs (pu_b (APf (AAe hp (AAe he AAs)) fun Q q => ⟨p, n, rfl, hn, q⟩)) ?_
  cases e : Sd12.place n p with
  | false =>
    rw [e, if_neg Bool.false_ne_true] at k1
    exact iteT (ASh cl hM is_c ha k1)
  | true =>
    rw [e, if_pos rfl] at k1
    exact iteF (hu e k1)
noncomputable def A1i (M : Mx) (us : List V) (k : V → Mx → Prop) : Prop := ∃ d p n : Nat, us = [vN d, vN p, vN n] ∧ d < 16 ∧ 0 < n ∧ k .non (if Sd12.place n p = true then M.store p (M.r.getD d 0) n else M.bad)
theorem AQz (T : Txt K mg) (cl : Cl K C) : Fn P w K mg base "store" 2 ["machine", "d", "place", "size"] (spM C 3 A1i) := by
  have G_is_none := AId (P := P) (w := w) (base := base) T
  have G_put_bytes := ALo (P := P) (w := w) (base := base) T cl
  refine m_fn T.A92 A4a (fun _ _ _ _ _ _ => ln4 (fun _ _ _ _ => rfl)) rfl (fun f cdv A outer s H m B M us Q E hr hM h => ?_)
  obtain ⟨d, p, n, rfl, hd, hn, k⟩ := h
  refine ⟨_, (@AAg _ _ _ (@AEn _ _ _ _ _ _ _ _ (@AJ0 _ _ _ (@ABy _ _ _ _ _ _ _ _ _ _ G_is_none (hmo hr) (lj AFo 0 rfl) (@AAa _ _ _ _ _ (pV 2 AFo 1 nms0 16 rfl rfl rfl) (@AAa _ _ _ _ _ (pV 3 AFo 2 nms1 0 rfl rfl rfl) AAi rfl) rfl) (nj nms4 0 rfl).1 rfl rfl) (by intro _; rfl)) (@AAg _ _ _ (@ACs _ _ _ _ _ _ _ _ (pV 0 AFo 3 nms0 17 rfl rfl rfl) (@AAt _ _ _ _ T.c_NO_PLACE (lj AFo 4 rfl) (nj nms4 1 rfl).1) rfl)) (@AAg _ _ _ (@ACe _ _ _ _ (@ABy _ _ _ _ _ _ _ _ _ _ G_put_bytes (hmo hr) (lj AFo 5 rfl) (@AAa _ _ _ _ _ (pV 0 AFo 3 nms0 17 rfl rfl rfl) (@AAa _ _ _ _ _ (pV 2 AFo 1 nms0 16 rfl rfl rfl) (@AAa _ _ _ _ _ (pV 3 AFo 2 nms1 0 rfl rfl rfl) (@AAa _ _ _ _ _ (@ACz _ _ _ _ _ _ _ AAz (@AAo _ _ _ _ _ (pV 0 AFo 3 nms0 17 rfl rfl rfl) rfl) (pV 1 AFo 6 nms0 20 rfl rfl rfl) (fun _ _ => rfl)) AAi rfl) rfl) rfl) rfl) (nj nms4 2 rfl).1 rfl rfl) rfl)))), ?_⟩
  refine AM2 (p := p) (n := n) cl hM (AAc rfl) (AAc rfl) (AAc rfl) hn k fun e k => ?_
  exact ATn (AAe (AAc rfl) (AAe (AAc rfl) (AAe (AAc rfl) (AAe (ASx cl hM (AAc rfl) (AAc rfl) hd) AAs)))) ⟨m, B, M, _, rfl, rfl, hM, p, n, _, rfl, ALh e, k⟩
noncomputable def BAf (M : Mx) (us : List V) (k : V → Mx → Prop) : Prop := ∃ d p : Nat, us = [vN d, vN p] ∧ d < 16 ∧ k .non (if Sd12.place 4 p = true then M.set d (word M.mem p) else M.bad)
theorem AKz (T : Txt K mg) (cl : Cl K C) : Fn P w K mg base "load_word" 3 ["machine", "d", "place"] (spM C 2 BAf) := by
  have G_is_none := AId (P := P) (w := w) (base := base) T
  have G_word_at := AKy (P := P) (w := w) (base := base) T
  refine m_fn T.AS9 AP1 (fun _ _ _ _ _ _ => ln3 (fun _ _ _ => rfl)) rfl (fun f cdv A outer s H m B M us Q E hr hM h => ?_)
  obtain ⟨d, p, rfl, hd, k⟩ := h
  refine ⟨_, (@AAg _ _ _ (@AEn _ _ _ _ _ _ _ _ (@AJ0 _ _ _ (@ABy _ _ _ _ _ _ _ _ _ _ G_is_none (hmo hr) (lj ACv 0 rfl) (@AAa _ _ _ _ _ (pV 2 ACv 1 nms0 16 rfl rfl rfl) (@AAa _ _ _ _ _ (pn 4) AAi rfl) rfl) (nj nms4 0 rfl).1 rfl rfl) (by intro _; rfl)) (@AAg _ _ _ (@ACs _ _ _ _ _ _ _ _ (pV 0 ACv 2 nms0 17 rfl rfl rfl) (@AAt _ _ _ _ T.c_NO_PLACE (lj ACv 3 rfl) (nj nms4 1 rfl).1) rfl)) (@AAg _ _ _ (@ACn _ _ _ _ _ _ (@ABy _ _ _ _ _ _ _ _ _ _ G_word_at (hmo hr) (lj ACv 4 rfl) (@AAa _ _ _ _ _ (@AAo _ _ _ _ _ (pV 0 ACv 2 nms0 17 rfl rfl rfl) rfl) (@AAa _ _ _ _ _ (pV 2 ACv 1 nms0 16 rfl rfl rfl) AAi rfl) rfl) (nj nms4 4 rfl).1 rfl rfl) (@ACk _ _ _ _ _ _ _ (@AAo _ _ _ _ _ (pV 0 ACv 2 nms0 17 rfl rfl rfl) rfl) (pV 1 ACv 5 nms0 20 rfl rfl rfl) set_list (by intros; rfl)) rfl rfl rfl)))), ?_⟩
  refine AM2 (p := p) (n := 4) cl hM (AAc rfl) (AAc rfl) is_c (by decide) k fun e k => ?_
  have hp := ALh e
  exact AJv (AAe (ADg cl hM cl.memory AEx (AAc rfl)) (AAe (AAc rfl) AAs)) ⟨B.ma, M.mem, p, rfl, .of hM.mem, hM.byte, by rw [hM.size]; exact hp, AG3 cl hM (AAc rfl) (AAc rfl) hd (ATt hM.byte p) k⟩
noncomputable def BD4 (M : Mx) (us : List V) (k : V → Mx → Prop) : Prop := ∃ d p b : Nat, us = [vN d, vN p, vN b] ∧ d < 16 ∧ k .non (if Sd12.place 2 p = true then M.set d (ws (half M.mem p) b) else M.bad)
theorem AKd (T : Txt K mg) (cl : Cl K C) : Fn P w K mg base "load_half" 2 ["machine", "d", "place", "sign_bit"] (spM C 3 BD4) := by
  have G_is_none := AId (P := P) (w := w) (base := base) T
  have G_half_at := AIt (P := P) (w := w) (base := base) T
  have G_with_sign := ACu (P := P) (w := w) (base := base) T
  refine m_fn T.ATa AQu (fun _ _ _ _ _ _ => ln4 (fun _ _ _ _ => rfl)) rfl (fun f cdv A outer s H m B M us Q E hr hM h => ?_)
  obtain ⟨d, p, b, rfl, hd, k⟩ := h
  refine ⟨_, (@AAg _ _ _ (@AEn _ _ _ _ _ _ _ _ (@AJ0 _ _ _ (@ABy _ _ _ _ _ _ _ _ _ _ G_is_none (hmo hr) (lj ABu 0 rfl) (@AAa _ _ _ _ _ (pV 2 ABu 1 nms0 16 rfl rfl rfl) (@AAa _ _ _ _ _ (pn 2) AAi rfl) rfl) (nj nms4 0 rfl).1 rfl rfl) (by intro _; rfl)) (@AAg _ _ _ (@ACs _ _ _ _ _ _ _ _ (pV 0 ABu 2 nms0 17 rfl rfl rfl) (@AAt _ _ _ _ T.c_NO_PLACE (lj ABu 3 rfl) (nj nms4 1 rfl).1) rfl)) (@AAg _ _ _ (@ACn _ _ _ _ _ _ (@AAl _ _ _ _ _ _ _ _ AG8 (@ABy _ _ _ _ _ _ _ _ _ _ G_with_sign (hmo hr) (lj ABu 4 rfl) (@AAa _ _ _ _ _ (@ABy _ _ _ _ _ _ _ _ _ _ G_half_at (hmo hr) (lj ABu 5 rfl) (@AAa _ _ _ _ _ (@AAo _ _ _ _ _ (pV 0 ABu 2 nms0 17 rfl rfl rfl) rfl) (@AAa _ _ _ _ _ (pV 2 ABu 1 nms0 16 rfl rfl rfl) AAi rfl) rfl) (nj nms1 1 rfl).1 rfl rfl) (@AAa _ _ _ _ _ (pV 3 ABu 6 nms1 3 rfl rfl rfl) AAi rfl) rfl) (nj nms2 13 rfl).1 rfl rfl) (@AAt _ _ _ _ T.c_WORD (lj ABu 7 rfl) (nj nms0 23 rfl).1)) (@ACk _ _ _ _ _ _ _ (@AAo _ _ _ _ _ (pV 0 ABu 2 nms0 17 rfl rfl rfl) rfl) (pV 1 ABu 8 nms0 20 rfl rfl rfl) set_list (by intros; rfl)) rfl rfl rfl)))), ?_⟩
  refine AM2 (p := p) (n := 2) cl hM (AAc rfl) (AAc rfl) is_c (by decide) k fun e k => ?_
  have hp := ALh e
  refine zW (APf (AAe (APf (v := vN (half M.mem p)) (AAe (ADg cl hM cl.memory AEx (AAc rfl)) (AAe (AAc rfl) AAs)) fun Q q => ⟨B.ma, M.mem, p, rfl, .of hM.mem, hM.byte, by rw [hM.size]; exact hp, q⟩) (AAe (AAc rfl) AAs)) fun Q q => ⟨half M.mem p, b, rfl, q⟩) _ ?_
  exact AG3 cl hM (AAc rfl) (AAc rfl) hd (A8q _ _) k
noncomputable def BEk (M : Mx) (us : List V) (k : V → Mx → Prop) : Prop := ∃ d p b : Nat, us = [vN d, vN p, vN b] ∧ d < 16 ∧ k .non (if Sd12.place 1 p = true then M.set d (ws (M.mem.getD p 0) b) else M.bad)
theorem AK6 (T : Txt K mg) (cl : Cl K C) : Fn P w K mg base "load_byte" 2 ["machine", "d", "place", "sign_bit"] (spM C 3 BEk) := by
  have G_is_none := AId (P := P) (w := w) (base := base) T
  have G_with_sign := ACu (P := P) (w := w) (base := base) T
  refine m_fn T.ATb APy (fun _ _ _ _ _ _ => ln4 (fun _ _ _ _ => rfl)) rfl (fun f cdv A outer s H m B M us Q E hr hM h => ?_)
  obtain ⟨d, p, b, rfl, hd, k⟩ := h
  refine ⟨_, (@AAg _ _ _ (@AEn _ _ _ _ _ _ _ _ (@AJ0 _ _ _ (@ABy _ _ _ _ _ _ _ _ _ _ G_is_none (hmo hr) (lj ABz 0 rfl) (@AAa _ _ _ _ _ (pV 2 ABz 1 nms0 16 rfl rfl rfl) (@AAa _ _ _ _ _ (pn 1) AAi rfl) rfl) (nj nms4 0 rfl).1 rfl rfl) (by intro _; rfl)) (@AAg _ _ _ (@ACs _ _ _ _ _ _ _ _ (pV 0 ABz 2 nms0 17 rfl rfl rfl) (@AAt _ _ _ _ T.c_NO_PLACE (lj ABz 3 rfl) (nj nms4 1 rfl).1) rfl)) (@AAg _ _ _ (@ACn _ _ _ _ _ _ (@AAl _ _ _ _ _ _ _ _ AG8 (@ABy _ _ _ _ _ _ _ _ _ _ G_with_sign (hmo hr) (lj ABz 4 rfl) (@AAa _ _ _ _ _ (@ACz _ _ _ _ _ _ _ AAz (@AAo _ _ _ _ _ (pV 0 ABz 2 nms0 17 rfl rfl rfl) rfl) (pV 2 ABz 1 nms0 16 rfl rfl rfl) (fun _ _ => rfl)) (@AAa _ _ _ _ _ (pV 3 ABz 5 nms1 3 rfl rfl rfl) AAi rfl) rfl) (nj nms2 13 rfl).1 rfl rfl) (@AAt _ _ _ _ T.c_WORD (lj ABz 6 rfl) (nj nms0 23 rfl).1)) (@ACk _ _ _ _ _ _ _ (@AAo _ _ _ _ _ (pV 0 ABz 2 nms0 17 rfl rfl rfl) rfl) (pV 1 ABz 7 nms0 20 rfl rfl rfl) set_list (by intros; rfl)) rfl rfl rfl)))), ?_⟩
  refine AM2 (p := p) (n := 1) cl hM (AAc rfl) (AAc rfl) is_c (by decide) k fun e k => ?_
  have hp := ALh e
  refine zW (APf (AAe (AKr (ADg cl hM cl.memory AEx (AAc rfl)) (AAc rfl) (.of hM.mem) (hM.mem_at hp)) (AAe (AAc rfl) AAs)) fun Q q => ⟨M.mem.getD p 0, b, rfl, q⟩) _ ?_
  exact AG3 cl hM (AAc rfl) (AAc rfl) hd (A8q _ _) k
theorem none_list {a : Nat} {l : List Nat} (h : l ≠ []) : (!decide (a % 4 = 0) || decide (65536 < a + 4 * l.length)) = decide (Sd12.place 4 a = false ∨ 65536 < a + 4 * l.length) := by
  have hl : 0 < l.length := List.length_pos_iff.mpr h
  unfold Sd12.place Sd12.SIZE
  generalize l.length = n at hl
  rw [Bool.eq_iff_iff]
  simp only [Bool.or_eq_true, Bool.not_eq_true', decide_eq_true_eq, decide_eq_false_iff_not, Bool.and_eq_false_iff, beq_eq_false_iff_ne]
  omega
theorem ACx (T : Txt K mg) : Fn P w K mg base "is_none_for_list" 1 ["place", "registers"] (AK8 K) := by
  refine T.AJt.fn AIh (fun _ _ _ _ _ _ => ln2 (fun _ _ => rfl)) (fun vs H Q E h => ?_) (fun f cdv A outer s H vs Q E hr h => ?_)
  · obtain ⟨a, p, l, rfl, _⟩ := h
    rfl
  obtain ⟨a, p, l, rfl, hT, hl, k⟩ := h
  refine ⟨_, (@AAg _ _ _ (@AAw _ _ _ _ (@BEj _ _ _ _ _ _ _ (@ADs _ _ _ _ _ _ _ _ A54 (@AAl _ _ _ _ _ _ _ _ A2j (pV 0 ACh 0 nms0 16 rfl rfl rfl) (pn 4)) (pn 0) rfl) (@AVt _ _ _ _ _ (@ADs _ _ _ _ _ _ _ _ A6m (@AAl _ _ _ _ _ _ _ _ AHo (pV 0 ACh 0 nms0 16 rfl rfl rfl) (@AAl _ _ _ _ _ _ _ _ AOq (pn 4) (@AH2 _ _ _ _ _ _ _ _ _ AD8 (lj ACh 1 rfl) T.n_len PySem.boot_len (@AAa _ _ _ _ _ (pV 1 ACh 2 nms2 4 rfl rfl rfl) AAi rfl) AR4 (nj nms0 0 rfl).1 rfl rfl))) (@AAt _ _ _ _ T.c_SIZE (lj ACh 3 rfl) (nj nms0 13 rfl).1) rfl))))), ?_⟩
  refine AOr (BEn (AVy (AIw (AAc rfl) is_c (by show 0 < 4; decide)) is_c) fun _ => A3g (is_n (AAc rfl) (AIw is_c (A6y (AAc rfl) hT) (by show 4 < 2 ^ 64; decide))) is_c) ?_
  rw [none_list hl]
  exact k
noncomputable def Mx.take (M : Mx) (p : Nat) (l : List Nat) : Nat → Mx
  | 0 => M
  | i + 1 => (M.take p l i).set (l.getD i 0) (word M.mem (p + 4 * i))
noncomputable def Mx.putl (M : Mx) (p : Nat) (l : List Nat) : Nat → Mx
  | 0 => M
  | i + 1 => (M.putl p l i).store (p + 4 * i) (M.r.getD (l.getD i 0) 0) 4
noncomputable def A7m (K : Frag) (H : Hp) (M : Mx) (us : List V) (k : V → Mx → Prop) : Prop := ∃ (p : Nat) (t : Addr) (l : List Nat), us = [vN p, .ref t] ∧ SqT K H t (l.map vN) ∧ (∀ r ∈ l, r < 16) ∧ p + 4 * l.length ≤ 65536 ∧ k .non (M.take p l l.length)
noncomputable def A7r (K : Frag) (H : Hp) (M : Mx) (us : List V) (k : V → Mx → Prop) : Prop := ∃ (p : Nat) (t : Addr) (l : List Nat), us = [vN p, .ref t] ∧ SqT K H t (l.map vN) ∧ (∀ r ∈ l, r < 16) ∧ p + 4 * l.length ≤ 65536 ∧ k .non (M.putl p l l.length)
theorem A2q (M : Mx) (p : Nat) (l : List Nat) (i : Nat) : (M.take p l i).mem = M.mem := by
  induction i with
  | zero => rfl
  | succ i ih => exact ih
theorem A9w (M : Mx) (p x i : Nat) : (M.store p x i).r = M.r := by
  induction i with
  | zero => rfl
  | succ i ih => exact ih
theorem BDa (M : Mx) (p : Nat) (l : List Nat) (i : Nat) : (M.putl p l i).r = M.r := by
  induction i with
  | zero => rfl
  | succ i ih => exact (A9w _ _ _ _).trans ih
theorem getD_at {l : List Nat} {i : Nat} {v : V} (h : (l.map vN)[i]? = some v) : v = vN (l.getD i 0) ∧ i < l.length := by
  rw [List.getElem?_map] at h
  obtain ⟨x, hx, rfl⟩ := Option.map_eq_some_iff.mp h
  refine ⟨?_, ?_⟩
  · rw [List.getD_eq_getElem?_getD, hx]; rfl
  · exact (List.getElem?_eq_some_iff.mp hx).1
theorem getD_in {l : List Nat} {i : Nat} (h : i < l.length) : l.getD i 0 ∈ l := by
  rw [List.getD_eq_getElem?_getD, List.getElem?_eq_getElem h]
  exact List.getElem_mem h
theorem ATh {te : TE} {g : TG} {tb : TS} {D : Ends} {σ : L2.St} {H : Hp} {t : Addr} {l : List Nat} (h : Is te σ H (.ref t)) (Pv : Nat → L2.St → Hp → Prop) (hT : SqT K H t (l.map vN)) (h0 : Pv 0 σ H) (hl : ∀ i σ H, Pv i σ H → SqT K H t (l.map vN))
    (hs : ∀ i σ H, i < l.length → Pv i σ H → g (vN (l.getD i 0)) σ H fun σ2 H2 => tb { D with nx := Pv (i + 1), ct := Pv (i + 1), bk := D.nx } σ2 H2) (hd : ∀ σ H, Pv l.length σ H → D.nx σ H) : tFor (iTup K te) g tb D σ H := by
  refine h _ ⟨t, rfl, ⟨_, hT⟩, A6n Pv h0 (fun i σ H _ p => hl i σ H p) (fun i x σ H hx p => ?_) (fun σ H p => hd σ H ?_)⟩
  · obtain ⟨rfl, hi⟩ := getD_at hx
    exact hs i σ H hi p
  · rw [List.length_map] at p
    exact p
theorem ALg (T : Txt K mg) (cl : Cl K C) : Fn P w K mg base "take_list" 3 ["machine", "place", "registers"] (spH C 2 (A7m K)) := by
  have G_word_at := AKy (P := P) (w := w) (base := base) T
  refine m_fn T.ATd AH8 (fun _ _ _ _ _ _ => ln3 (fun _ _ _ => rfl)) rfl (fun f cdv A outer s H m B M us Q E hr hM h => ?_)
  obtain ⟨p, t, l, rfl, hT, hl, hp, k⟩ := h
  refine ⟨_, (@AAg _ _ _ (@AUh _ _ _ _ _ _ _ _ PassesOwn.never rfl (@A6c _ _ _ _ (pV 2 ACq 1 nms2 4 rfl rfl rfl)) (@AKf _ _ 3 _ AH8.nd rfl (Or.inl (lj ACq 0 rfl)) (.inl rfl)) (@AAf _ _ _ _ _ (@ACn _ _ _ _ _ _ (@ABy _ _ _ _ _ _ _ _ _ _ G_word_at (hmo hr) (lj ACq 3 rfl) (@AAa _ _ _ _ _ (@AAo _ _ _ _ _ (pV 0 ACq 2 nms0 17 rfl rfl rfl) rfl) (@AAa _ _ _ _ _ (pV 1 ACq 4 nms0 16 rfl rfl rfl) AAi rfl) rfl) (nj nms4 4 rfl).1 rfl rfl) (@ACk _ _ _ _ _ _ _ (@AAo _ _ _ _ _ (pV 0 ACq 2 nms0 17 rfl rfl rfl) rfl) (pV 3 ACq 0 nms4 8 rfl rfl rfl) set_list (by intros; rfl)) rfl rfl rfl) (@AAg _ _ _ (@ABk _ _ 1 _ _ _ _ AH8.nd rfl (Or.inl (lj ACq 4 rfl)) (@AAl _ _ _ _ _ _ _ _ AHo (pV 1 ACq 4 nms0 16 rfl rfl rfl) (pn 4)) rfl (.inl rfl)))) (by intro _; rfl))), ?_⟩
  refine ATh (AAc rfl) (fun i σ H' => Chg B m H H' ∧ MAt C H' m B (M.take p l i) ∧ ∃ o, σ = [some (.ref m), some (vN (p + 4 * i)), some (.ref t), o]) hT ⟨Chg.refl, hM, none, rfl⟩ (fun i σ H' h => AOm hM h.1 hT) (fun i σ H' hi h => ?_) (fun σ H' h => k H' h.1 h.2.1)
  obtain ⟨c1, hM1, o, rfl⟩ := h
  have hm := A2q M p l i
  refine AJv (AAe (ADg cl hM1 cl.memory AEx (AAc rfl)) (AAe (AAc rfl) AAs)) ⟨B.ma, M.mem, p + 4 * i, rfl, by rw [← hm]; exact .of hM1.mem, hM.byte, by rw [hM.size]; omega, ?_⟩
  refine AG3 (n := l.getD i 0) cl hM1 (AAc rfl) (AAc rfl) (hl _ (getD_in hi)) (ATt hM.byte _) fun H2 c2 hM2 => ?_
  exact is_n (x := p + 4 * i) (y := 4) (AAc rfl) is_c _ ⟨c1.trans c2, hM2, _, rfl⟩
theorem AMc (T : Txt K mg) (cl : Cl K C) : Fn P w K mg base "put_list" 2 ["machine", "place", "registers"] (spH C 2 (A7r K)) := by
  have G_put_bytes := ALo (P := P) (w := w) (base := base) T cl
  refine m_fn T.AXf AJm (fun _ _ _ _ _ _ => ln3 (fun _ _ _ => rfl)) rfl (fun f cdv A outer s H m B M us Q E hr hM h => ?_)
  obtain ⟨p, t, l, rfl, hT, hl, hp, k⟩ := h
  refine ⟨_, (@AAg _ _ _ (@AUh _ _ _ _ _ _ _ _ PassesOwn.never rfl (@A6c _ _ _ _ (pV 2 ADc 1 nms2 4 rfl rfl rfl)) (@AKf _ _ 3 _ AJm.nd rfl (Or.inl (lj ADc 0 rfl)) (.inl rfl)) (@AAf _ _ _ _ _ (@ACe _ _ _ _ (@ABy _ _ _ _ _ _ _ _ _ _ G_put_bytes (hmo hr) (lj ADc 2 rfl) (@AAa _ _ _ _ _ (pV 0 ADc 3 nms0 17 rfl rfl rfl) (@AAa _ _ _ _ _ (pV 1 ADc 4 nms0 16 rfl rfl rfl) (@AAa _ _ _ _ _ (pn 4) (@AAa _ _ _ _ _ (@ACz _ _ _ _ _ _ _ AAz (@AAo _ _ _ _ _ (pV 0 ADc 3 nms0 17 rfl rfl rfl) rfl) (pV 3 ADc 0 nms4 8 rfl rfl rfl) (fun _ _ => rfl)) AAi rfl) rfl) rfl) rfl) (nj nms4 2 rfl).1 rfl rfl) rfl) (@AAg _ _ _ (@ABk _ _ 1 _ _ _ _ AJm.nd rfl (Or.inl (lj ADc 4 rfl)) (@AAl _ _ _ _ _ _ _ _ AHo (pV 1 ADc 4 nms0 16 rfl rfl rfl) (pn 4)) rfl (.inl rfl)))) (by intro _; rfl))), ?_⟩
  refine ATh (AAc rfl) (fun i σ H' => Chg B m H H' ∧ MAt C H' m B (M.putl p l i) ∧ ∃ o, σ = [some (.ref m), some (vN (p + 4 * i)), some (.ref t), o]) hT ⟨Chg.refl, hM, none, rfl⟩ (fun i σ H' h => AOm hM h.1 hT) (fun i σ H' hi h => ?_) (fun σ H' h => k H' h.1 h.2.1)
  obtain ⟨c1, hM1, o, rfl⟩ := h
  have hr := BDa M p l i
  refine AJv (AAe (AAc rfl) (AAe (AAc rfl) (AAe is_c (AAe (ASx (n := l.getD i 0) cl hM1 (AAc rfl) (AAc rfl) (hl _ (getD_in hi))) AAs)))) ⟨m, B, _, _, rfl, rfl, hM1, p + 4 * i, 4, _, rfl, by omega, fun H2 c2 hM2 => ?_⟩
  rw [hr] at hM2
  exact is_n (x := p + 4 * i) (y := 4) (AAc rfl) is_c _ ⟨c1.trans c2, hM2, _, rfl⟩
end
end Chip
namespace Chip
open PySem L2 LX
noncomputable abbrev dnx : List Str := ["machine", "d", "n", "x"]
noncomputable def D3 (g : Mx → Nat → Nat → Nat → Mx) (_ : Hp) (M : Mx) (us : List V) (k : V → Mx → Prop) : Prop := ∃ d n x : Nat, us = [vN d, vN n, vN x] ∧ d < 16 ∧ n < 16 ∧ x < 2 ^ 32 ∧ k .non (g M d n x)
noncomputable def D2 (g : Mx → Nat → Nat → Mx) (_ : Hp) (M : Mx) (us : List V) (k : V → Mx → Prop) : Prop := ∃ (d : Nat) (u : V) (x : Nat), us = [vN d, u, vN x] ∧ d < 16 ∧ x < 2 ^ 32 ∧ k .non (g M d x)
section
variable {P : Program} {w : World} {K : Frag} {mg : Str → Option Value} {base : Heap} {C : Addr}
theorem AJu {x : Str} {st : Stmt} {N : List Str} {k : Nat} {g : Mx → Nat → Nat → Nat → Mx} (D : Def K mg x st) (S : AAh N dnx (AAb st))
    (hb : ∀ (kV doc pm : Value) (an : Option Addr) (cdv ct : Value) (us : List Value), us.length = dnx.length → bindArgs (fnOf x x (AEi st) (ACy st) (AAb st) .none kV doc pm an cdv ct) ⟨us, []⟩ = pure (dnx.zip us))
    (body : ∀ (f : Addr) (cdv : Value) (A : Around) (outer : List Env) (s : Shared) (H : Hp) (m : Addr) (B : Ad) (M : Mx) (d n x' : Nat) (Q : VK) (E : XK), Room k (A.deeper (PyProof.Rows.envOfC x (AAb st) s.heap.objs.size f cdv)) → MAt C H m B M → d < 16 → n < 16 → x' < 2 ^ 32 → KM C B m H Q .non (g M d n x') →
      ∃ t, PSs (cxOf CX0 P w K mg base N x (AAb st) f cdv A outer s H E).nox (ACy st) t ∧ t { nx := fun _ H' => Q .non H', rt := Q } (start N [.ref m, vN d, vN n, vN x']) H) : Fn P w K mg base x (k + 1) dnx (spH C 3 (D3 g)) := by
  refine m_fn D S hb rfl (fun f cdv A outer s H m B M us Q E hr hM h => ?_)
  obtain ⟨d, n, x', rfl, hd, hn, hx, kk⟩ := h
  exact body f cdv A outer s H m B M d n x' Q E hr hM hd hn hx kk
theorem ATr {x : Str} {st : Stmt} {N : List Str} {k : Nat} {g : Mx → Nat → Nat → Mx} (D : Def K mg x st) (S : AAh N dnx (AAb st))
    (hb : ∀ (kV doc pm : Value) (an : Option Addr) (cdv ct : Value) (us : List Value), us.length = dnx.length → bindArgs (fnOf x x (AEi st) (ACy st) (AAb st) .none kV doc pm an cdv ct) ⟨us, []⟩ = pure (dnx.zip us))
    (body : ∀ (f : Addr) (cdv : Value) (A : Around) (outer : List Env) (s : Shared) (H : Hp) (m : Addr) (B : Ad) (M : Mx) (d : Nat) (u : V) (x' : Nat) (Q : VK) (E : XK), Room k (A.deeper (PyProof.Rows.envOfC x (AAb st) s.heap.objs.size f cdv)) → MAt C H m B M → d < 16 → x' < 2 ^ 32 → KM C B m H Q .non (g M d x') →
      ∃ t, PSs (cxOf CX0 P w K mg base N x (AAb st) f cdv A outer s H E).nox (ACy st) t ∧ t { nx := fun _ H' => Q .non H', rt := Q } (start N [.ref m, vN d, u, vN x']) H) : Fn P w K mg base x (k + 1) dnx (spH C 3 (D2 g)) := by
  refine m_fn D S hb rfl (fun f cdv A outer s H m B M us Q E hr hM h => ?_)
  obtain ⟨d, u, x', rfl, hd, hx, kk⟩ := h
  exact body f cdv A outer s H m B M d u x' Q E hr hM hd hx kk
section
variable {σ : L2.St} {H : Hp} {te t1 t2 t3 : TE} {m : Addr} {B : Ad} {M : Mx} {D : Ends} {a b c d n x kind : Nat}
noncomputable abbrev gR (K : Frag) : TG := gSub (tFld K (tVar 0) "regs") (tVar 1) A3e
theorem AQo (cl : Cl K C) (hM : MAt C H m B M) (e0 : σ[0]? = some (some (.ref m))) (e1 : σ[1]? = some (some (vN d))) (hd : d < 16) (he : Is te σ H (vN x)) (hx : x < 2 ^ 32) (k : ∀ H', Chg B m H H' → MAt C H' m B (M.set d x) → D.nx σ H') : tAsg te (gR K) D σ H :=
  he _ (AG3 cl hM (AAc e0) (AAc e1) hd hx k)
theorem AQj (cl : Cl K C) (hM : MAt C H m B M) (e0 : σ[0]? = some (some (.ref m))) (e1 : σ[1]? = some (some (vN d))) (hd : d < 16) (he : Is te σ H (vN x)) (hx : x < 2 ^ 32) (k : ∀ H', Chg B m H H' → MAt C H' m B ((M.nz x).set d x) → D.nx σ H') : tAsg (tFn (spM C 1 AKp) (ABx (tVar 0) (ABx te tNil))) (gR K) D σ H :=
  AJv (AAe (AAc e0) (AAe he AAs)) ⟨m, B, M, _, rfl, rfl, hM, x, rfl, hx, fun H1 c1 hM1 => AG3 cl hM1 (AAc e0) (AAc e1) hd hx fun H2 c2 hM2 => k H2 (c1.trans c2) hM2⟩
theorem BCo (hM : MAt C H m B M) (e0 : σ[0]? = some (some (.ref m))) (he : Is te σ H (vN x)) (hx : x < 2 ^ 32) (k : ∀ H', Chg B m H H' → MAt C H' m B (M.nz x) → D.nx σ H') : AOi (tFn (spM C 1 AKp) (ABx (tVar 0) (ABx te tNil))) D σ H :=
  AJv (AAe (AAc e0) (AAe he AAs)) ⟨m, B, M, _, rfl, rfl, hM, x, rfl, hx, k⟩
theorem A2i (cl : Cl K C) (hM : MAt C H m B M) (e0 : σ[0]? = some (some (.ref m))) (e1 : σ[1]? = some (some (vN d))) (hd : d < 16) (h1 : Is t1 σ H (vN a)) (h2 : Is t2 σ H (vN b)) (h3 : Is t3 σ H (vN c)) (ha : a < 2 ^ 32) (hb : b < 2 ^ 32) (hc : c < 2)
    (k : ∀ H', Chg B m H H' → MAt C H' m B ((M.nzcv (Sd12.add a b c)).set d (Sd12.add a b c).1) → D.nx σ H') : tAsg (tFn (spM C 3 AU3) (ABx (tVar 0) (ABx t1 (ABx t2 (ABx t3 tNil))))) (gR K) D σ H :=
  AJv (AAe (AAc e0) (AAe h1 (AAe h2 (AAe h3 AAs)))) ⟨m, B, M, _, rfl, rfl, hM, a, b, c, rfl, ha, hb, hc, fun H1 c1 hM1 => AG3 cl hM1 (AAc e0) (AAc e1) hd (AYx a b c) fun H2 c2 hM2 => k H2 (c1.trans c2) hM2⟩
theorem BBg (hM : MAt C H m B M) (e0 : σ[0]? = some (some (.ref m))) (h1 : Is t1 σ H (vN a)) (h2 : Is t2 σ H (vN b)) (h3 : Is t3 σ H (vN c)) (ha : a < 2 ^ 32) (hb : b < 2 ^ 32) (hc : c < 2)
    (k : ∀ H', Chg B m H H' → MAt C H' m B (M.nzcv (Sd12.add a b c)) → D.nx σ H') : AOi (tFn (spM C 3 AU3) (ABx (tVar 0) (ABx t1 (ABx t2 (ABx t3 tNil))))) D σ H :=
  AJv (AAe (AAc e0) (AAe h1 (AAe h2 (AAe h3 AAs)))) ⟨m, B, M, _, rfl, rfl, hM, a, b, c, rfl, ha, hb, hc, k⟩
theorem A6a (cl : Cl K C) (hM : MAt C H m B M) (e0 : σ[0]? = some (some (.ref m))) (e1 : σ[1]? = some (some (vN d))) (hd : d < 16) (h1 : Is t1 σ H (vN a)) (h2 : Is t2 σ H (vN b)) (ha : a < 2 ^ 32) (hb : b < 2 ^ 32)
    (k : ∀ H', Chg B m H H' → MAt C H' m B ((M.nzcv (Sd12.add a (Sd12.not32 b) 1)).set d (Sd12.add a (Sd12.not32 b) 1).1) → D.nx σ H') : tAsg (tFn (spM C 2 A3a) (ABx (tVar 0) (ABx t1 (ABx t2 tNil)))) (gR K) D σ H :=
  AJv (AAe (AAc e0) (AAe h1 (AAe h2 AAs))) ⟨m, B, M, _, rfl, rfl, hM, a, b, rfl, ha, hb, fun H1 c1 hM1 => AG3 cl hM1 (AAc e0) (AAc e1) hd (AYx _ _ _) fun H2 c2 hM2 => k H2 (c1.trans c2) hM2⟩
theorem BBa (hM : MAt C H m B M) (e0 : σ[0]? = some (some (.ref m))) (h1 : Is t1 σ H (vN a)) (h2 : Is t2 σ H (vN b)) (ha : a < 2 ^ 32) (hb : b < 2 ^ 32)
    (k : ∀ H', Chg B m H H' → MAt C H' m B (M.nzcv (Sd12.add a (Sd12.not32 b) 1)) → D.nx σ H') : AOi (tFn (spM C 2 A3a) (ABx (tVar 0) (ABx t1 (ABx t2 tNil)))) D σ H :=
  AJv (AAe (AAc e0) (AAe h1 (AAe h2 AAs))) ⟨m, B, M, _, rfl, rfl, hM, a, b, rfl, ha, hb, k⟩
noncomputable def Mx.shf (M : Mx) (x : Nat × Bool) (d : Nat) : Mx := (({ M with c := x.2 } : Mx).nz x.1).set d x.1
theorem AWc {kind a b : Nat} {c : Bool} (ha : a < 2 ^ 32) (hk : kind < 4) : (Sd12.shift kind a b c).1 < 2 ^ 32 := by
  by_cases e : b = 0
  · subst e
    rw [A34]
    exact ha
  · have z : kind = 0 ∨ kind = 1 ∨ kind = 2 ∨ kind = 3 := by omega
    rcases z with rfl | rfl | rfl | rfl
    · rw [A8d ha e]; exact Nat.mod_lt _ (by decide)
    · rw [A6s ha e]; exact Nat.lt_of_le_of_lt (Nat.div_le_self _ _) ha
    · rw [A80 (AMf a 31) ha e]; exact AH6 _
    · rw [A8c ha e]; exact Nat.mod_lt _ (by decide)
theorem AZg (cl : Cl K C) (hM : MAt C H m B M) (e0 : σ[0]? = some (some (.ref m))) (e1 : σ[1]? = some (some (vN d))) (hd : d < 16) (h1 : Is t1 σ H (vN a)) (h2 : Is t2 σ H (vN b)) (ha : a < 2 ^ 32) (hb : b < 256) (hk : kind < 4)
    (k : ∀ H', Chg B m H H' → MAt C H' m B (M.shf (Sd12.shift kind a b M.c) d) → D.nx σ H') : tAsg (tFn (spM C 1 AKp) (ABx (tVar 0) (ABx (tFn (spM C 2 (AMj kind)) (ABx (tVar 0) (ABx t1 (ABx t2 tNil)))) tNil))) (gR K) D σ H :=
  show tVar 0 σ H (fun v1 H1 => tFn (spM C 2 (AMj kind)) (ABx (tVar 0) (ABx t1 (ABx t2 tNil))) σ H1 fun v2 H2 => spM C 1 AKp [v1, v2] H2 (fun y H3 => gR K y σ H3 D.nx) E0) from
  AAc e0 _ (AJv (AAe (AAc e0) (AAe h1 (AAe h2 AAs))) ⟨m, B, M, _, rfl, rfl, hM, a, b, rfl, ha, hb, fun H1 c1 hM1 =>
    ⟨m, B, _, _, rfl, rfl, hM1, _, rfl, AWc ha hk, fun H2 c2 hM2 => AG3 cl hM2 (AAc e0) (AAc e1) hd (AWc ha hk) fun H3 c3 hM3 => k H3 ((c1.trans c2).trans c3) hM3⟩⟩)
theorem AWa (cl : Cl K C) (hM : MAt C H m B M) (e0 : σ[0]? = some (some (.ref m))) : Is (tFld K (tVar 0) "carry") σ H (vB M.c) := ADg cl hM cl.carry AM9 (AAc e0)
noncomputable abbrev rg (M : Mx) (n : Nat) : Nat := M.r.getD n 0
noncomputable abbrev tRg (K : Frag) : TE := tOp (rIxL K) (tFld K (tVar 0) "regs") (tVar 2)
theorem ALy (cl : Cl K C) (hM : MAt C H m B M) (e0 : σ[0]? = some (some (.ref m))) (e2 : σ[2]? = some (some (vN n))) (hn : n < 16) : Is (tRg K) σ H (vN (rg M n)) := ASx cl hM (AAc e0) (AAc e2) hn
end
theorem AV1 (T : Txt K mg) (cl : Cl K C) : Fn P w K mg base "do_movs" 2 ["machine", "d", "n", "x"] (spH C 3 (D2 fun M d x => (M.nz x).set d x)) := by
  have G_result_of := ABv (P := P) (w := w) (base := base) T cl
  exact ATr T.AZ0 AWt (fun _ _ _ _ _ _ => ln4 (fun _ _ _ _ => rfl)) fun f cdv A outer s H m B M d u x Q E hr hM hd hx k => ⟨_, (@AAg _ _ _ (@ACn _ _ _ _ _ _ (@ABy _ _ _ _ _ _ _ _ _ _ G_result_of (hmo hr) (lj AHi 1 rfl) (@AAa _ _ _ _ _ (pV 0 AHi 0 nms0 17 rfl rfl rfl) (@AAa _ _ _ _ _ (pV 3 AHi 2 nms1 13 rfl rfl rfl) AAi rfl) rfl) (nj nms3 15 rfl).1 rfl rfl) (@ACk _ _ _ _ _ _ _ (@AAo _ _ _ _ _ (pV 0 AHi 0 nms0 17 rfl rfl rfl) rfl) (pV 1 AHi 3 nms0 20 rfl rfl rfl) set_list (by intros; rfl)) rfl rfl rfl)), AQj cl hM rfl rfl hd (AAc rfl) hx k⟩
theorem AWk (T : Txt K mg) (cl : Cl K C) : Fn P w K mg base "do_mvns" 2 ["machine", "d", "n", "x"] (spH C 3 (D2 fun M d x => (M.nz (Sd12.not32 x)).set d (Sd12.not32 x))) := by
  have G_result_of := ABv (P := P) (w := w) (base := base) T cl
  exact ATr T.AZ1 AUc (fun _ _ _ _ _ _ => ln4 (fun _ _ _ _ => rfl)) fun f cdv A outer s H m B M d u x Q E hr hM hd hx k => ⟨_, (@AAg _ _ _ (@ACn _ _ _ _ _ _ (@ABy _ _ _ _ _ _ _ _ _ _ G_result_of (hmo hr) (lj AGg 1 rfl) (@AAa _ _ _ _ _ (pV 0 AGg 0 nms0 17 rfl rfl rfl) (@AAa _ _ _ _ _ (@AAl _ _ _ _ _ _ _ _ ATe (pV 3 AGg 2 nms1 13 rfl rfl rfl) (@AAt _ _ _ _ T.c_WORD (lj AGg 3 rfl) (nj nms0 23 rfl).1)) AAi rfl) rfl) (nj nms3 15 rfl).1 rfl rfl) (@ACk _ _ _ _ _ _ _ (@AAo _ _ _ _ _ (pV 0 AGg 0 nms0 17 rfl rfl rfl) rfl) (pV 1 AGg 4 nms0 20 rfl rfl rfl) set_list (by intros; rfl)) rfl rfl rfl)), AQj cl hM rfl rfl hd (ixW hx (AAc rfl)) (not_lt x) k⟩
theorem AWw (T : Txt K mg) (cl : Cl K C) : Fn P w K mg base "do_ands" 2 ["machine", "d", "n", "x"] (spH C 3 (D3 fun M d n x => (M.nz (rg M n &&& x)).set d (rg M n &&& x))) := by
  have G_result_of := ABv (P := P) (w := w) (base := base) T cl
  exact AJu T.AZ2 AWm (fun _ _ _ _ _ _ => ln4 (fun _ _ _ _ => rfl)) fun f cdv A outer s H m B M d n x Q E hr hM hd hn hx k => ⟨_, (@AAg _ _ _ (@ACn _ _ _ _ _ _ (@ABy _ _ _ _ _ _ _ _ _ _ G_result_of (hmo hr) (lj AFj 1 rfl) (@AAa _ _ _ _ _ (pV 0 AFj 0 nms0 17 rfl rfl rfl) (@AAa _ _ _ _ _ (@AAl _ _ _ _ _ _ _ _ ABt (@ACz _ _ _ _ _ _ _ AAz (@AAo _ _ _ _ _ (pV 0 AFj 0 nms0 17 rfl rfl rfl) rfl) (pV 2 AFj 2 nms1 12 rfl rfl rfl) (fun _ _ => rfl)) (pV 3 AFj 3 nms1 13 rfl rfl rfl)) AAi rfl) rfl) (nj nms3 15 rfl).1 rfl rfl) (@ACk _ _ _ _ _ _ _ (@AAo _ _ _ _ _ (pV 0 AFj 0 nms0 17 rfl rfl rfl) rfl) (pV 1 AFj 4 nms0 20 rfl rfl rfl) set_list (by intros; rfl)) rfl rfl rfl)), AQj cl hM rfl rfl hd (is_n (ALy cl hM rfl rfl hn) (AAc rfl)) (Nat.and_lt_two_pow _ hx) k⟩
theorem AXy (T : Txt K mg) (cl : Cl K C) : Fn P w K mg base "do_tst" 2 ["machine", "d", "n", "x"] (spH C 3 (D3 fun M _ n x => M.nz (rg M n &&& x))) := by
  have G_result_of := ABv (P := P) (w := w) (base := base) T cl
  exact AJu T.A5j AYl (fun _ _ _ _ _ _ => ln4 (fun _ _ _ _ => rfl)) fun f cdv A outer s H m B M d n x Q E hr hM hd hn hx k => ⟨_, (@AAg _ _ _ (@ACe _ _ _ _ (@ABy _ _ _ _ _ _ _ _ _ _ G_result_of (hmo hr) (lj AIm 0 rfl) (@AAa _ _ _ _ _ (pV 0 AIm 1 nms0 17 rfl rfl rfl) (@AAa _ _ _ _ _ (@AAl _ _ _ _ _ _ _ _ ABt (@ACz _ _ _ _ _ _ _ AAz (@AAo _ _ _ _ _ (pV 0 AIm 1 nms0 17 rfl rfl rfl) rfl) (pV 2 AIm 2 nms1 12 rfl rfl rfl) (fun _ _ => rfl)) (pV 3 AIm 3 nms1 13 rfl rfl rfl)) AAi rfl) rfl) (nj nms3 15 rfl).1 rfl rfl) rfl)), BCo hM rfl (is_n (ALy cl hM rfl rfl hn) (AAc rfl)) (Nat.and_lt_two_pow _ hx) k⟩
theorem AWh (T : Txt K mg) (cl : Cl K C) : Fn P w K mg base "do_bics" 2 ["machine", "d", "n", "x"] (spH C 3 (D3 fun M d n x => (M.nz (rg M n &&& Sd12.not32 x)).set d (rg M n &&& Sd12.not32 x))) := by
  have G_result_of := ABv (P := P) (w := w) (base := base) T cl
  exact AJu T.AZ3 AVx (fun _ _ _ _ _ _ => ln4 (fun _ _ _ _ => rfl)) fun f cdv A outer s H m B M d n x Q E hr hM hd hn hx k => ⟨_, (@AAg _ _ _ (@ACn _ _ _ _ _ _ (@ABy _ _ _ _ _ _ _ _ _ _ G_result_of (hmo hr) (lj AEm 1 rfl) (@AAa _ _ _ _ _ (pV 0 AEm 0 nms0 17 rfl rfl rfl) (@AAa _ _ _ _ _ (@AAl _ _ _ _ _ _ _ _ ABt (@ACz _ _ _ _ _ _ _ AAz (@AAo _ _ _ _ _ (pV 0 AEm 0 nms0 17 rfl rfl rfl) rfl) (pV 2 AEm 2 nms1 12 rfl rfl rfl) (fun _ _ => rfl)) (@AAl _ _ _ _ _ _ _ _ ATe (pV 3 AEm 3 nms1 13 rfl rfl rfl) (@AAt _ _ _ _ T.c_WORD (lj AEm 4 rfl) (nj nms0 23 rfl).1))) AAi rfl) rfl) (nj nms3 15 rfl).1 rfl rfl) (@ACk _ _ _ _ _ _ _ (@AAo _ _ _ _ _ (pV 0 AEm 0 nms0 17 rfl rfl rfl) rfl) (pV 1 AEm 5 nms0 20 rfl rfl rfl) set_list (by intros; rfl)) rfl rfl rfl)), AQj cl hM rfl rfl hd (is_n (ALy cl hM rfl rfl hn) (ixW hx (AAc rfl))) (Nat.and_lt_two_pow _ (not_lt x)) k⟩
theorem AV2 (T : Txt K mg) (cl : Cl K C) : Fn P w K mg base "do_orrs" 2 ["machine", "d", "n", "x"] (spH C 3 (D3 fun M d n x => (M.nz (rg M n ||| x)).set d (rg M n ||| x))) := by
  have G_result_of := ABv (P := P) (w := w) (base := base) T cl
  exact AJu T.AZ4 AWs (fun _ _ _ _ _ _ => ln4 (fun _ _ _ _ => rfl)) fun f cdv A outer s H m B M d n x Q E hr hM hd hn hx k => ⟨_, (@AAg _ _ _ (@ACn _ _ _ _ _ _ (@ABy _ _ _ _ _ _ _ _ _ _ G_result_of (hmo hr) (lj AFn 1 rfl) (@AAa _ _ _ _ _ (pV 0 AFn 0 nms0 17 rfl rfl rfl) (@AAa _ _ _ _ _ (@AAl _ _ _ _ _ _ _ _ n_or (@ACz _ _ _ _ _ _ _ AAz (@AAo _ _ _ _ _ (pV 0 AFn 0 nms0 17 rfl rfl rfl) rfl) (pV 2 AFn 2 nms1 12 rfl rfl rfl) (fun _ _ => rfl)) (pV 3 AFn 3 nms1 13 rfl rfl rfl)) AAi rfl) rfl) (nj nms3 15 rfl).1 rfl rfl) (@ACk _ _ _ _ _ _ _ (@AAo _ _ _ _ _ (pV 0 AFn 0 nms0 17 rfl rfl rfl) rfl) (pV 1 AFn 4 nms0 20 rfl rfl rfl) set_list (by intros; rfl)) rfl rfl rfl)), AQj cl hM rfl rfl hd (is_n (ALy cl hM rfl rfl hn) (AAc rfl)) (Nat.or_lt_two_pow (ACp hM n) hx) k⟩
theorem AWp (T : Txt K mg) (cl : Cl K C) : Fn P w K mg base "do_eors" 2 ["machine", "d", "n", "x"] (spH C 3 (D3 fun M d n x => (M.nz (rg M n ^^^ x)).set d (rg M n ^^^ x))) := by
  have G_result_of := ABv (P := P) (w := w) (base := base) T cl
  exact AJu T.AZ5 AWn (fun _ _ _ _ _ _ => ln4 (fun _ _ _ _ => rfl)) fun f cdv A outer s H m B M d n x Q E hr hM hd hn hx k => ⟨_, (@AAg _ _ _ (@ACn _ _ _ _ _ _ (@ABy _ _ _ _ _ _ _ _ _ _ G_result_of (hmo hr) (lj AFu 1 rfl) (@AAa _ _ _ _ _ (pV 0 AFu 0 nms0 17 rfl rfl rfl) (@AAa _ _ _ _ _ (@AAl _ _ _ _ _ _ _ _ ATe (@ACz _ _ _ _ _ _ _ AAz (@AAo _ _ _ _ _ (pV 0 AFu 0 nms0 17 rfl rfl rfl) rfl) (pV 2 AFu 2 nms1 12 rfl rfl rfl) (fun _ _ => rfl)) (pV 3 AFu 3 nms1 13 rfl rfl rfl)) AAi rfl) rfl) (nj nms3 15 rfl).1 rfl rfl) (@ACk _ _ _ _ _ _ _ (@AAo _ _ _ _ _ (pV 0 AFu 0 nms0 17 rfl rfl rfl) rfl) (pV 1 AFu 4 nms0 20 rfl rfl rfl) set_list (by intros; rfl)) rfl rfl rfl)), AQj cl hM rfl rfl hd (is_n (ALy cl hM rfl rfl hn) (AAc rfl)) (Nat.xor_lt_two_pow (ACp hM n) hx) k⟩
theorem AUb (T : Txt K mg) (cl : Cl K C) : Fn P w K mg base "do_muls" 2 ["machine", "d", "n", "x"] (spH C 3 (D3 fun M d n x => (M.nz (rg M n * x % 2 ^ 32)).set d (rg M n * x % 2 ^ 32))) := by
  have G_result_of := ABv (P := P) (w := w) (base := base) T cl
  exact AJu T.AZ6 AW1 (fun _ _ _ _ _ _ => ln4 (fun _ _ _ _ => rfl)) fun f cdv A outer s H m B M d n x Q E hr hM hd hn hx k => ⟨_, (@AAg _ _ _ (@ACn _ _ _ _ _ _ (@ABy _ _ _ _ _ _ _ _ _ _ G_result_of (hmo hr) (lj AEk 1 rfl) (@AAa _ _ _ _ _ (pV 0 AEk 0 nms0 17 rfl rfl rfl) (@AAa _ _ _ _ _ (@AAl _ _ _ _ _ _ _ _ ABt (@AAl _ _ _ _ _ _ _ _ AOq (@ACz _ _ _ _ _ _ _ AAz (@AAo _ _ _ _ _ (pV 0 AEk 0 nms0 17 rfl rfl rfl) rfl) (pV 2 AEk 2 nms1 12 rfl rfl rfl) (fun _ _ => rfl)) (pV 3 AEk 3 nms1 13 rfl rfl rfl)) (@AAt _ _ _ _ T.c_WORD (lj AEk 4 rfl) (nj nms0 23 rfl).1)) AAi rfl) rfl) (nj nms3 15 rfl).1 rfl rfl) (@ACk _ _ _ _ _ _ _ (@AAo _ _ _ _ _ (pV 0 AEk 0 nms0 17 rfl rfl rfl) rfl) (pV 1 AEk 5 nms0 20 rfl rfl rfl) set_list (by intros; rfl)) rfl rfl rfl)), AQj cl hM rfl rfl hd (iW (AIw (ALy cl hM rfl rfl hn) (AAc rfl) (Nat.lt_trans (ACp hM n) (by decide)))) (Nat.mod_lt _ (by decide)) k⟩
theorem AT3 (T : Txt K mg) (cl : Cl K C) : Fn P w K mg base "do_lsls" 2 ["machine", "d", "n", "x"] (spH C 3 (D3 fun M d n x => M.shf (Sd12.shift 0 (rg M n) (x % 256) M.c) d)) := by
  have G_result_of := ABv (P := P) (w := w) (base := base) T cl
  have G_shifted_left := AL4 (P := P) (w := w) (base := base) T cl
  exact AJu T.AZ7 ATp (fun _ _ _ _ _ _ => ln4 (fun _ _ _ _ => rfl)) fun f cdv A outer s H m B M d n x Q E hr hM hd hn hx k => ⟨_, (@AAg _ _ _ (@ACn _ _ _ _ _ _ (@ABy _ _ _ _ _ _ _ _ _ _ G_result_of (hmo hr) (lj ADz 1 rfl) (@AAa _ _ _ _ _ (pV 0 ADz 0 nms0 17 rfl rfl rfl) (@AAa _ _ _ _ _ (@ABy _ _ _ _ _ _ _ _ _ _ G_shifted_left (hmo hr) (lj ADz 2 rfl) (@AAa _ _ _ _ _ (pV 0 ADz 0 nms0 17 rfl rfl rfl) (@AAa _ _ _ _ _ (@ACz _ _ _ _ _ _ _ AAz (@AAo _ _ _ _ _ (pV 0 ADz 0 nms0 17 rfl rfl rfl) rfl) (pV 2 ADz 3 nms1 12 rfl rfl rfl) (fun _ _ => rfl)) (@AAa _ _ _ _ _ (@AAl _ _ _ _ _ _ _ _ ABt (pV 3 ADz 4 nms1 13 rfl rfl rfl) (pn 255)) AAi rfl) rfl) rfl) (nj nms3 16 rfl).1 rfl rfl) AAi rfl) rfl) (nj nms3 15 rfl).1 rfl rfl) (@ACk _ _ _ _ _ _ _ (@AAo _ _ _ _ _ (pV 0 ADz 0 nms0 17 rfl rfl rfl) rfl) (pV 1 ADz 5 nms0 20 rfl rfl rfl) set_list (by intros; rfl)) rfl rfl rfl)), AZg cl hM rfl rfl hd (ALy cl hM rfl rfl hn) (i255 (AAc rfl)) (ACp hM n) (Nat.mod_lt _ (by decide)) (by decide) k⟩
theorem ATo (T : Txt K mg) (cl : Cl K C) : Fn P w K mg base "do_lsrs" 2 ["machine", "d", "n", "x"] (spH C 3 (D3 fun M d n x => M.shf (Sd12.shift 1 (rg M n) (x % 256) M.c) d)) := by
  have G_result_of := ABv (P := P) (w := w) (base := base) T cl
  have G_shifted_right := AK3 (P := P) (w := w) (base := base) T cl
  exact AJu T.AZ8 AT2 (fun _ _ _ _ _ _ => ln4 (fun _ _ _ _ => rfl)) fun f cdv A outer s H m B M d n x Q E hr hM hd hn hx k => ⟨_, (@AAg _ _ _ (@ACn _ _ _ _ _ _ (@ABy _ _ _ _ _ _ _ _ _ _ G_result_of (hmo hr) (lj ADr 1 rfl) (@AAa _ _ _ _ _ (pV 0 ADr 0 nms0 17 rfl rfl rfl) (@AAa _ _ _ _ _ (@ABy _ _ _ _ _ _ _ _ _ _ G_shifted_right (hmo hr) (lj ADr 2 rfl) (@AAa _ _ _ _ _ (pV 0 ADr 0 nms0 17 rfl rfl rfl) (@AAa _ _ _ _ _ (@ACz _ _ _ _ _ _ _ AAz (@AAo _ _ _ _ _ (pV 0 ADr 0 nms0 17 rfl rfl rfl) rfl) (pV 2 ADr 3 nms1 12 rfl rfl rfl) (fun _ _ => rfl)) (@AAa _ _ _ _ _ (@AAl _ _ _ _ _ _ _ _ ABt (pV 3 ADr 4 nms1 13 rfl rfl rfl) (pn 255)) AAi rfl) rfl) rfl) (nj nms3 17 rfl).1 rfl rfl) AAi rfl) rfl) (nj nms3 15 rfl).1 rfl rfl) (@ACk _ _ _ _ _ _ _ (@AAo _ _ _ _ _ (pV 0 ADr 0 nms0 17 rfl rfl rfl) rfl) (pV 1 ADr 5 nms0 20 rfl rfl rfl) set_list (by intros; rfl)) rfl rfl rfl)), AZg cl hM rfl rfl hd (ALy cl hM rfl rfl hn) (i255 (AAc rfl)) (ACp hM n) (Nat.mod_lt _ (by decide)) (by decide) k⟩
theorem AU2 (T : Txt K mg) (cl : Cl K C) : Fn P w K mg base "do_asrs" 3 ["machine", "d", "n", "x"] (spH C 3 (D3 fun M d n x => M.shf (Sd12.shift 2 (rg M n) (x % 256) M.c) d)) := by
  have G_result_of := ABv (P := P) (w := w) (base := base) T cl
  have G_shifted_with_sign := AH4 (P := P) (w := w) (base := base) T cl
  exact AJu T.AZ9 AWz (fun _ _ _ _ _ _ => ln4 (fun _ _ _ _ => rfl)) fun f cdv A outer s H m B M d n x Q E hr hM hd hn hx k => ⟨_, (@AAg _ _ _ (@ACn _ _ _ _ _ _ (@ABy _ _ _ _ _ _ _ _ _ _ G_result_of (hmo hr) (lj ADq 1 rfl) (@AAa _ _ _ _ _ (pV 0 ADq 0 nms0 17 rfl rfl rfl) (@AAa _ _ _ _ _ (@ABy _ _ _ _ _ _ _ _ _ _ G_shifted_with_sign (hmo hr) (lj ADq 2 rfl) (@AAa _ _ _ _ _ (pV 0 ADq 0 nms0 17 rfl rfl rfl) (@AAa _ _ _ _ _ (@ACz _ _ _ _ _ _ _ AAz (@AAo _ _ _ _ _ (pV 0 ADq 0 nms0 17 rfl rfl rfl) rfl) (pV 2 ADq 3 nms1 12 rfl rfl rfl) (fun _ _ => rfl)) (@AAa _ _ _ _ _ (@AAl _ _ _ _ _ _ _ _ ABt (pV 3 ADq 4 nms1 13 rfl rfl rfl) (pn 255)) AAi rfl) rfl) rfl) (nj nms3 18 rfl).1 rfl rfl) AAi rfl) rfl) (nj nms3 15 rfl).1 rfl rfl) (@ACk _ _ _ _ _ _ _ (@AAo _ _ _ _ _ (pV 0 ADq 0 nms0 17 rfl rfl rfl) rfl) (pV 1 ADq 5 nms0 20 rfl rfl rfl) set_list (by intros; rfl)) rfl rfl rfl)), AZg cl hM rfl rfl hd (ALy cl hM rfl rfl hn) (i255 (AAc rfl)) (ACp hM n) (Nat.mod_lt _ (by decide)) (by decide) k⟩
theorem AUk (T : Txt K mg) (cl : Cl K C) : Fn P w K mg base "do_rors" 2 ["machine", "d", "n", "x"] (spH C 3 (D3 fun M d n x => M.shf (Sd12.shift 3 (rg M n) (x % 256) M.c) d)) := by
  have G_result_of := ABv (P := P) (w := w) (base := base) T cl
  have G_turned_right := ALx (P := P) (w := w) (base := base) T cl
  exact AJu T.A0a AT6 (fun _ _ _ _ _ _ => ln4 (fun _ _ _ _ => rfl)) fun f cdv A outer s H m B M d n x Q E hr hM hd hn hx k => ⟨_, (@AAg _ _ _ (@ACn _ _ _ _ _ _ (@ABy _ _ _ _ _ _ _ _ _ _ G_result_of (hmo hr) (lj ADt 1 rfl) (@AAa _ _ _ _ _ (pV 0 ADt 0 nms0 17 rfl rfl rfl) (@AAa _ _ _ _ _ (@ABy _ _ _ _ _ _ _ _ _ _ G_turned_right (hmo hr) (lj ADt 2 rfl) (@AAa _ _ _ _ _ (pV 0 ADt 0 nms0 17 rfl rfl rfl) (@AAa _ _ _ _ _ (@ACz _ _ _ _ _ _ _ AAz (@AAo _ _ _ _ _ (pV 0 ADt 0 nms0 17 rfl rfl rfl) rfl) (pV 2 ADt 3 nms1 12 rfl rfl rfl) (fun _ _ => rfl)) (@AAa _ _ _ _ _ (@AAl _ _ _ _ _ _ _ _ ABt (pV 3 ADt 4 nms1 13 rfl rfl rfl) (pn 255)) AAi rfl) rfl) rfl) (nj nms3 19 rfl).1 rfl rfl) AAi rfl) rfl) (nj nms3 15 rfl).1 rfl rfl) (@ACk _ _ _ _ _ _ _ (@AAo _ _ _ _ _ (pV 0 ADt 0 nms0 17 rfl rfl rfl) rfl) (pV 1 ADt 5 nms0 20 rfl rfl rfl) set_list (by intros; rfl)) rfl rfl rfl)), AZg cl hM rfl rfl hd (ALy cl hM rfl rfl hn) (i255 (AAc rfl)) (ACp hM n) (Nat.mod_lt _ (by decide)) (by decide) k⟩
noncomputable def Mx.sum (M : Mx) (x : Nat × Bool × Bool) (d : Nat) : Mx := (M.nzcv x).set d x.1
theorem ATw (T : Txt K mg) (cl : Cl K C) : Fn P w K mg base "do_adds" 2 ["machine", "d", "n", "x"] (spH C 3 (D3 fun M d n x => M.sum (Sd12.add (rg M n) x 0) d)) := by
  have G_total_of := AGi (P := P) (w := w) (base := base) T cl
  exact AJu T.A0b ATq (fun _ _ _ _ _ _ => ln4 (fun _ _ _ _ => rfl)) fun f cdv A outer s H m B M d n x Q E hr hM hd hn hx k => ⟨_, (@AAg _ _ _ (@ACn _ _ _ _ _ _ (@ABy _ _ _ _ _ _ _ _ _ _ G_total_of (hmo hr) (lj AFc 1 rfl) (@AAa _ _ _ _ _ (pV 0 AFc 0 nms0 17 rfl rfl rfl) (@AAa _ _ _ _ _ (@ACz _ _ _ _ _ _ _ AAz (@AAo _ _ _ _ _ (pV 0 AFc 0 nms0 17 rfl rfl rfl) rfl) (pV 2 AFc 2 nms1 12 rfl rfl rfl) (fun _ _ => rfl)) (@AAa _ _ _ _ _ (pV 3 AFc 3 nms1 13 rfl rfl rfl) (@AAa _ _ _ _ _ (pn 0) AAi rfl) rfl) rfl) rfl) (nj nms3 7 rfl).1 rfl rfl) (@ACk _ _ _ _ _ _ _ (@AAo _ _ _ _ _ (pV 0 AFc 0 nms0 17 rfl rfl rfl) rfl) (pV 1 AFc 4 nms0 20 rfl rfl rfl) set_list (by intros; rfl)) rfl rfl rfl)), A2i cl hM rfl rfl hd (ALy cl hM rfl rfl hn) (AAc rfl) is_c (ACp hM n) hx (by decide) k⟩
theorem AT8 (T : Txt K mg) (cl : Cl K C) : Fn P w K mg base "do_adcs" 2 ["machine", "d", "n", "x"] (spH C 3 (D3 fun M d n x => M.sum (Sd12.add (rg M n) x (Sd12.toNat M.c)) d)) := by
  have G_total_of := AGi (P := P) (w := w) (base := base) T cl
  exact AJu T.A0c AWr (fun _ _ _ _ _ _ => ln4 (fun _ _ _ _ => rfl)) fun f cdv A outer s H m B M d n x Q E hr hM hd hn hx k => ⟨_, (@AAg _ _ _ (@ACn _ _ _ _ _ _ (@ABy _ _ _ _ _ _ _ _ _ _ G_total_of (hmo hr) (lj AEo 1 rfl) (@AAa _ _ _ _ _ (pV 0 AEo 0 nms0 17 rfl rfl rfl) (@AAa _ _ _ _ _ (@ACz _ _ _ _ _ _ _ AAz (@AAo _ _ _ _ _ (pV 0 AEo 0 nms0 17 rfl rfl rfl) rfl) (pV 2 AEo 2 nms1 12 rfl rfl rfl) (fun _ _ => rfl)) (@AAa _ _ _ _ _ (pV 3 AEo 3 nms1 13 rfl rfl rfl) (@AAa _ _ _ _ _ (@AAo _ _ _ _ _ (pV 0 AEo 0 nms0 17 rfl rfl rfl) rfl) AAi rfl) rfl) rfl) rfl) (nj nms3 7 rfl).1 rfl rfl) (@ACk _ _ _ _ _ _ _ (@AAo _ _ _ _ _ (pV 0 AEo 0 nms0 17 rfl rfl rfl) rfl) (pV 1 AEo 4 nms0 20 rfl rfl rfl) set_list (by intros; rfl)) rfl rfl rfl)), A2i cl hM rfl rfl hd (ALy cl hM rfl rfl hn) (AAc rfl) (AWa cl hM rfl) (ACp hM n) hx (toNat_lt _) k⟩
theorem AYz (T : Txt K mg) (cl : Cl K C) : Fn P w K mg base "do_cmn" 2 ["machine", "d", "n", "x"] (spH C 3 (D3 fun M _ n x => M.nzcv (Sd12.add (rg M n) x 0))) := by
  have G_total_of := AGi (P := P) (w := w) (base := base) T cl
  exact AJu T.A5k AZa (fun _ _ _ _ _ _ => ln4 (fun _ _ _ _ => rfl)) fun f cdv A outer s H m B M d n x Q E hr hM hd hn hx k => ⟨_, (@AAg _ _ _ (@ACe _ _ _ _ (@ABy _ _ _ _ _ _ _ _ _ _ G_total_of (hmo hr) (lj AIj 0 rfl) (@AAa _ _ _ _ _ (pV 0 AIj 1 nms0 17 rfl rfl rfl) (@AAa _ _ _ _ _ (@ACz _ _ _ _ _ _ _ AAz (@AAo _ _ _ _ _ (pV 0 AIj 1 nms0 17 rfl rfl rfl) rfl) (pV 2 AIj 2 nms1 12 rfl rfl rfl) (fun _ _ => rfl)) (@AAa _ _ _ _ _ (pV 3 AIj 3 nms1 13 rfl rfl rfl) (@AAa _ _ _ _ _ (pn 0) AAi rfl) rfl) rfl) rfl) (nj nms3 7 rfl).1 rfl rfl) rfl)), BBg hM rfl (ALy cl hM rfl rfl hn) (AAc rfl) is_c (ACp hM n) hx (by decide) k⟩
theorem AV6 (T : Txt K mg) (cl : Cl K C) : Fn P w K mg base "do_subs" 3 ["machine", "d", "n", "x"] (spH C 3 (D3 fun M d n x => M.sum (Sd12.add (rg M n) (Sd12.not32 x) 1) d)) := by
  have G_difference_of := AFt (P := P) (w := w) (base := base) T cl
  exact AJu T.A0d AV3 (fun _ _ _ _ _ _ => ln4 (fun _ _ _ _ => rfl)) fun f cdv A outer s H m B M d n x Q E hr hM hd hn hx k => ⟨_, (@AAg _ _ _ (@ACn _ _ _ _ _ _ (@ABy _ _ _ _ _ _ _ _ _ _ G_difference_of (hmo hr) (lj AFb 1 rfl) (@AAa _ _ _ _ _ (pV 0 AFb 0 nms0 17 rfl rfl rfl) (@AAa _ _ _ _ _ (@ACz _ _ _ _ _ _ _ AAz (@AAo _ _ _ _ _ (pV 0 AFb 0 nms0 17 rfl rfl rfl) rfl) (pV 2 AFb 2 nms1 12 rfl rfl rfl) (fun _ _ => rfl)) (@AAa _ _ _ _ _ (pV 3 AFb 3 nms1 13 rfl rfl rfl) AAi rfl) rfl) rfl) (nj nms3 20 rfl).1 rfl rfl) (@ACk _ _ _ _ _ _ _ (@AAo _ _ _ _ _ (pV 0 AFb 0 nms0 17 rfl rfl rfl) rfl) (pV 1 AFb 4 nms0 20 rfl rfl rfl) set_list (by intros; rfl)) rfl rfl rfl)), A6a cl hM rfl rfl hd (ALy cl hM rfl rfl hn) (AAc rfl) (ACp hM n) hx k⟩
theorem AV8 (T : Txt K mg) (cl : Cl K C) : Fn P w K mg base "do_sbcs" 2 ["machine", "d", "n", "x"] (spH C 3 (D3 fun M d n x => M.sum (Sd12.add (rg M n) (Sd12.not32 x) (Sd12.toNat M.c)) d)) := by
  have G_total_of := AGi (P := P) (w := w) (base := base) T cl
  exact AJu T.A0e AVr (fun _ _ _ _ _ _ => ln4 (fun _ _ _ _ => rfl)) fun f cdv A outer s H m B M d n x Q E hr hM hd hn hx k => ⟨_, (@AAg _ _ _ (@ACn _ _ _ _ _ _ (@ABy _ _ _ _ _ _ _ _ _ _ G_total_of (hmo hr) (lj ADx 1 rfl) (@AAa _ _ _ _ _ (pV 0 ADx 0 nms0 17 rfl rfl rfl) (@AAa _ _ _ _ _ (@ACz _ _ _ _ _ _ _ AAz (@AAo _ _ _ _ _ (pV 0 ADx 0 nms0 17 rfl rfl rfl) rfl) (pV 2 ADx 2 nms1 12 rfl rfl rfl) (fun _ _ => rfl)) (@AAa _ _ _ _ _ (@AAl _ _ _ _ _ _ _ _ ATe (pV 3 ADx 3 nms1 13 rfl rfl rfl) (@AAt _ _ _ _ T.c_WORD (lj ADx 4 rfl) (nj nms0 23 rfl).1)) (@AAa _ _ _ _ _ (@AAo _ _ _ _ _ (pV 0 ADx 0 nms0 17 rfl rfl rfl) rfl) AAi rfl) rfl) rfl) rfl) (nj nms3 7 rfl).1 rfl rfl) (@ACk _ _ _ _ _ _ _ (@AAo _ _ _ _ _ (pV 0 ADx 0 nms0 17 rfl rfl rfl) rfl) (pV 1 ADx 5 nms0 20 rfl rfl rfl) set_list (by intros; rfl)) rfl rfl rfl)), A2i cl hM rfl rfl hd (ALy cl hM rfl rfl hn) (ixW hx (AAc rfl)) (AWa cl hM rfl) (ACp hM n) (not_lt x) (toNat_lt _) k⟩
theorem AVv (T : Txt K mg) (cl : Cl K C) : Fn P w K mg base "do_rsbs" 3 ["machine", "d", "n", "x"] (spH C 3 (D2 fun M d x => M.sum (Sd12.add 0 (Sd12.not32 x) 1) d)) := by
  have G_difference_of := AFt (P := P) (w := w) (base := base) T cl
  exact ATr T.A0f AVu (fun _ _ _ _ _ _ => ln4 (fun _ _ _ _ => rfl)) fun f cdv A outer s H m B M d u x Q E hr hM hd hx k => ⟨_, (@AAg _ _ _ (@ACn _ _ _ _ _ _ (@ABy _ _ _ _ _ _ _ _ _ _ G_difference_of (hmo hr) (lj AHh 1 rfl) (@AAa _ _ _ _ _ (pV 0 AHh 0 nms0 17 rfl rfl rfl) (@AAa _ _ _ _ _ (pn 0) (@AAa _ _ _ _ _ (pV 3 AHh 2 nms1 13 rfl rfl rfl) AAi rfl) rfl) rfl) (nj nms3 20 rfl).1 rfl rfl) (@ACk _ _ _ _ _ _ _ (@AAo _ _ _ _ _ (pV 0 AHh 0 nms0 17 rfl rfl rfl) rfl) (pV 1 AHh 3 nms0 20 rfl rfl rfl) set_list (by intros; rfl)) rfl rfl rfl)), A6a cl hM rfl rfl hd is_c (AAc rfl) (by decide) hx k⟩
theorem AY8 (T : Txt K mg) (cl : Cl K C) : Fn P w K mg base "do_cmp" 3 ["machine", "d", "n", "x"] (spH C 3 (D3 fun M _ n x => M.nzcv (Sd12.add (rg M n) (Sd12.not32 x) 1))) := by
  have G_difference_of := AFt (P := P) (w := w) (base := base) T cl
  exact AJu T.A5l AYk (fun _ _ _ _ _ _ => ln4 (fun _ _ _ _ => rfl)) fun f cdv A outer s H m B M d n x Q E hr hM hd hn hx k => ⟨_, (@AAg _ _ _ (@ACe _ _ _ _ (@ABy _ _ _ _ _ _ _ _ _ _ G_difference_of (hmo hr) (lj AIk 0 rfl) (@AAa _ _ _ _ _ (pV 0 AIk 1 nms0 17 rfl rfl rfl) (@AAa _ _ _ _ _ (@ACz _ _ _ _ _ _ _ AAz (@AAo _ _ _ _ _ (pV 0 AIk 1 nms0 17 rfl rfl rfl) rfl) (pV 2 AIk 2 nms1 12 rfl rfl rfl) (fun _ _ => rfl)) (@AAa _ _ _ _ _ (pV 3 AIk 3 nms1 13 rfl rfl rfl) AAi rfl) rfl) rfl) (nj nms3 20 rfl).1 rfl rfl) rfl)), BBa hM rfl (ALy cl hM rfl rfl hn) (AAc rfl) (ACp hM n) hx k⟩
end
end Chip
namespace Chip
open PySem L2 LX
section
variable {σ : L2.St} {H : Hp} {ta : TE} {x : Nat}
theorem i64k (ha : Is ta σ H (vN x)) : Is (tOp oAnd ta (tC (.int ((65535 : Nat) : Int)))) σ H (vN (x % 65536)) := AFw (is_n ha is_c) (congrArg vN (Nat.and_two_pow_sub_one_eq_mod x 16))
theorem iFCn (hx : x < 2 ^ 32) (ha : Is ta σ H (vN x)) : Is (tOp oAnd ta (tC (.int ((4294967292 : Nat) : Int)))) σ H (vN (x / 4 * 4)) := AFw (is_n ha is_c) (congrArg vN (by
  show x &&& 4294967292 = _
  rw [nfc]
  omega))
end
section
variable {P : Program} {w : World} {K : Frag} {mg : Str → Option Value} {base : Heap} {C : Addr}
section
variable {σ : L2.St} {H : Hp} {te t1 t2 t3 : TE} {m : Addr} {B : Ad} {M : Mx} {D : Ends} {a b c d n x : Nat} {z : Int}
theorem A4j (hM : MAt C H m B M) (e0 : σ[0]? = some (some (.ref m))) (e1 : σ[1]? = some (some (vN d))) (hd : d < 16) (he : Is te σ H (.int z)) (k : ∀ H', Chg B m H H' → MAt C H' m B (M.put d z) → D.nx σ H') : AOi (tFn (spM C 2 ATl) (ABx (tVar 0) (ABx (tVar 1) (ABx te tNil)))) D σ H :=
  AJv (AAe (AAc e0) (AAe (AAc e1) (AAe he AAs))) ⟨m, B, M, _, rfl, rfl, hM, d, z, rfl, hd, k⟩
theorem BAh (cl : Cl K C) (hM : MAt C H m B M) (e0 : σ[0]? = some (some (.ref m))) : Is (tOp (rIxL K) (tFld K (tVar 0) "regs") (tC (.int ((15 : Nat) : Int)))) σ H (vN (rg M 15)) := ASx cl hM (AAc e0) is_c (by decide)
theorem BEu (cl : Cl K C) (hM : MAt C H m B M) (e0 : σ[0]? = some (some (.ref m))) : Is (tOp (rIxL K) (tFld K (tVar 0) "regs") (tC (.int ((13 : Nat) : Int)))) σ H (vN (rg M 13)) := ASx cl hM (AAc e0) is_c (by decide)
end
theorem AXv (T : Txt K mg) (cl : Cl K C) : Fn P w K mg base "do_add" 2 ["machine", "d", "n", "x"] (spH C 3 (D3 fun M d n x => M.put d ((rg M n + x : Nat) : Int))) := by
  have G_set_register := AF3 (P := P) (w := w) (base := base) T cl
  exact AJu T.A5m AYp (fun _ _ _ _ _ _ => ln4 (fun _ _ _ _ => rfl)) fun f cdv A outer s H m B M d n x Q E hr hM hd hn hx k => ⟨_, (@AAg _ _ _ (@ACe _ _ _ _ (@ABy _ _ _ _ _ _ _ _ _ _ G_set_register (hmo hr) (lj AHp 0 rfl) (@AAa _ _ _ _ _ (pV 0 AHp 1 nms0 17 rfl rfl rfl) (@AAa _ _ _ _ _ (pV 1 AHp 2 nms0 20 rfl rfl rfl) (@AAa _ _ _ _ _ (@AAl _ _ _ _ _ _ _ _ AHo (@ACz _ _ _ _ _ _ _ AAz (@AAo _ _ _ _ _ (pV 0 AHp 1 nms0 17 rfl rfl rfl) rfl) (pV 2 AHp 3 nms1 12 rfl rfl rfl) (fun _ _ => rfl)) (pV 3 AHp 4 nms1 13 rfl rfl rfl)) AAi rfl) rfl) rfl) (nj nms3 21 rfl).1 rfl rfl) rfl)), A4j hM rfl rfl hd (is_n (ALy cl hM rfl rfl hn) (AAc rfl)) k⟩
theorem AXk (T : Txt K mg) (cl : Cl K C) : Fn P w K mg base "do_sub" 2 ["machine", "d", "n", "x"] (spH C 3 (D3 fun M d n x => M.put d ((rg M n : Int) - (x : Int)))) := by
  have G_set_register := AF3 (P := P) (w := w) (base := base) T cl
  exact AJu T.A5n AX5 (fun _ _ _ _ _ _ => ln4 (fun _ _ _ _ => rfl)) fun f cdv A outer s H m B M d n x Q E hr hM hd hn hx k => ⟨_, (@AAg _ _ _ (@ACe _ _ _ _ (@ABy _ _ _ _ _ _ _ _ _ _ G_set_register (hmo hr) (lj AHm 0 rfl) (@AAa _ _ _ _ _ (pV 0 AHm 1 nms0 17 rfl rfl rfl) (@AAa _ _ _ _ _ (pV 1 AHm 2 nms0 20 rfl rfl rfl) (@AAa _ _ _ _ _ (@AAl _ _ _ _ _ _ _ _ AMt (@ACz _ _ _ _ _ _ _ AAz (@AAo _ _ _ _ _ (pV 0 AHm 1 nms0 17 rfl rfl rfl) rfl) (pV 2 AHm 3 nms1 12 rfl rfl rfl) (fun _ _ => rfl)) (pV 3 AHm 4 nms1 13 rfl rfl rfl)) AAi rfl) rfl) rfl) (nj nms3 21 rfl).1 rfl rfl) rfl)), A4j hM rfl rfl hd (A5b (ALy cl hM rfl rfl hn) (AAc rfl)) k⟩
theorem AXr (T : Txt K mg) (cl : Cl K C) : Fn P w K mg base "do_mov" 2 ["machine", "d", "n", "x"] (spH C 3 (D2 fun M d x => M.put d (x : Int))) := by
  have G_set_register := AF3 (P := P) (w := w) (base := base) T cl
  exact ATr T.A5o AYv (fun _ _ _ _ _ _ => ln4 (fun _ _ _ _ => rfl)) fun f cdv A outer s H m B M d u x Q E hr hM hd hx k => ⟨_, (@AAg _ _ _ (@ACe _ _ _ _ (@ABy _ _ _ _ _ _ _ _ _ _ G_set_register (hmo hr) (lj AKa 0 rfl) (@AAa _ _ _ _ _ (pV 0 AKa 1 nms0 17 rfl rfl rfl) (@AAa _ _ _ _ _ (pV 1 AKa 2 nms0 20 rfl rfl rfl) (@AAa _ _ _ _ _ (pV 3 AKa 3 nms1 13 rfl rfl rfl) AAi rfl) rfl) rfl) (nj nms3 21 rfl).1 rfl rfl) rfl)), A4j hM rfl rfl hd (AAc rfl) k⟩
noncomputable def BAx (M : Mx) (us : List V) (k : V → Mx → Prop) : Prop := ∃ x : Nat, us = [vN x] ∧ k (vN (rg M 15 / 4 * 4 + x)) M
theorem AFy (T : Txt K mg) (cl : Cl K C) : Fn P w K mg base "place_by_program" 1 ["machine", "x"] (spM C 1 BAx) := by
  refine m_fn T.AJs AIs (fun _ _ _ _ _ _ => ln2 (fun _ _ => rfl)) rfl (fun f cdv A outer s H m B M us Q E hr hM h => ?_)
  obtain ⟨x, rfl, k⟩ := h
  exact ⟨_, (@AAg _ _ _ (@AAw _ _ _ _ (@AAl _ _ _ _ _ _ _ _ AHo (@AAl _ _ _ _ _ _ _ _ ABt (@ACz _ _ _ _ _ _ _ AAz (@AAo _ _ _ _ _ (pV 0 AD1 0 nms0 17 rfl rfl rfl) rfl) (@AAt _ _ _ _ T.c_PC (lj AD1 1 rfl) (nj nms0 9 rfl).1) (fun _ _ => rfl)) (pn 4294967292)) (pV 1 AD1 2 nms1 13 rfl rfl rfl)))), AOr (is_n (iFCn (ACp hM 15) (BAh cl hM rfl)) (AAc rfl)) (k H Chg.refl hM)⟩
noncomputable def A1o (_ : Hp) (M : Mx) (us : List V) (k : V → Mx → Prop) : Prop := ∃ (d : Nat) (u : V) (x : Nat), us = [vN d, u, vN x] ∧ d < 16 ∧ rg M 15 / 4 * 4 + x < 2 ^ 32 ∧ k .non (M.set d (rg M 15 / 4 * 4 + x))
theorem AQh (T : Txt K mg) (cl : Cl K C) : Fn P w K mg base "do_add_pc" 2 ["machine", "d", "n", "x"] (spH C 3 A1o) := by
  have G_place_by_program := AFy (P := P) (w := w) (base := base) T cl
  refine m_fn T.AS8 AP7 (fun _ _ _ _ _ _ => ln4 (fun _ _ _ _ => rfl)) rfl (fun f cdv A outer s H m B M us Q E hr hM h => ?_)
  obtain ⟨d, u, x, rfl, hd, hx, k⟩ := h
  refine ⟨_, (@AAg _ _ _ (@ACn _ _ _ _ _ _ (@ABy _ _ _ _ _ _ _ _ _ _ G_place_by_program (hmo hr) (lj AFg 1 rfl) (@AAa _ _ _ _ _ (pV 0 AFg 0 nms0 17 rfl rfl rfl) (@AAa _ _ _ _ _ (pV 3 AFg 2 nms1 13 rfl rfl rfl) AAi rfl) rfl) (nj nms3 22 rfl).1 rfl rfl) (@ACk _ _ _ _ _ _ _ (@AAo _ _ _ _ _ (pV 0 AFg 0 nms0 17 rfl rfl rfl) rfl) (pV 1 AFg 3 nms0 20 rfl rfl rfl) set_list (by intros; rfl)) rfl rfl rfl)), ?_⟩
  exact AJv (AAe (AAc rfl) (AAe (AAc rfl) AAs)) ⟨m, B, M, _, rfl, rfl, hM, x, rfl, fun H1 c1 hM1 => AG3 cl hM1 (AAc rfl) (AAc rfl) hd hx fun H2 c2 hM2 => k H2 (c1.trans c2) hM2⟩
theorem AWj (T : Txt K mg) (cl : Cl K C) : Fn P w K mg base "do_sxth" 2 ["machine", "d", "n", "x"] (spH C 3 (D2 fun M d x => M.set d (ws (x % 65536) 32768))) := by
  have G_with_sign := ACu (P := P) (w := w) (base := base) T
  exact ATr T.A0g AUg (fun _ _ _ _ _ _ => ln4 (fun _ _ _ _ => rfl)) fun f cdv A outer s H m B M d u x Q E hr hM hd hx k => ⟨_, (@AAg _ _ _ (@ACn _ _ _ _ _ _ (@AAl _ _ _ _ _ _ _ _ AG8 (@ABy _ _ _ _ _ _ _ _ _ _ G_with_sign (hmo hr) (lj AHd 1 rfl) (@AAa _ _ _ _ _ (@AAl _ _ _ _ _ _ _ _ ABt (pV 3 AHd 2 nms1 13 rfl rfl rfl) (pn 65535)) (@AAa _ _ _ _ _ (pn 32768) AAi rfl) rfl) (nj nms2 13 rfl).1 rfl rfl) (@AAt _ _ _ _ T.c_WORD (lj AHd 3 rfl) (nj nms0 23 rfl).1)) (@ACk _ _ _ _ _ _ _ (@AAo _ _ _ _ _ (pV 0 AHd 0 nms0 17 rfl rfl rfl) rfl) (pV 1 AHd 4 nms0 20 rfl rfl rfl) set_list (by intros; rfl)) rfl rfl rfl)), AQo cl hM rfl rfl hd (zW (APf (AAe (i64k (AAc rfl)) (AAe is_c AAs)) fun Q q => ⟨_, _, rfl, q⟩)) (A8q _ _) k⟩
theorem AVm (T : Txt K mg) (cl : Cl K C) : Fn P w K mg base "do_sxtb" 2 ["machine", "d", "n", "x"] (spH C 3 (D2 fun M d x => M.set d (ws (x % 256) 128))) := by
  have G_with_sign := ACu (P := P) (w := w) (base := base) T
  exact ATr T.A0h AUw (fun _ _ _ _ _ _ => ln4 (fun _ _ _ _ => rfl)) fun f cdv A outer s H m B M d u x Q E hr hM hd hx k => ⟨_, (@AAg _ _ _ (@ACn _ _ _ _ _ _ (@AAl _ _ _ _ _ _ _ _ AG8 (@ABy _ _ _ _ _ _ _ _ _ _ G_with_sign (hmo hr) (lj AHg 1 rfl) (@AAa _ _ _ _ _ (@AAl _ _ _ _ _ _ _ _ ABt (pV 3 AHg 2 nms1 13 rfl rfl rfl) (pn 255)) (@AAa _ _ _ _ _ (pn 128) AAi rfl) rfl) (nj nms2 13 rfl).1 rfl rfl) (@AAt _ _ _ _ T.c_WORD (lj AHg 3 rfl) (nj nms0 23 rfl).1)) (@ACk _ _ _ _ _ _ _ (@AAo _ _ _ _ _ (pV 0 AHg 0 nms0 17 rfl rfl rfl) rfl) (pV 1 AHg 4 nms0 20 rfl rfl rfl) set_list (by intros; rfl)) rfl rfl rfl)), AQo cl hM rfl rfl hd (zW (APf (AAe (i255 (AAc rfl)) (AAe is_c AAs)) fun Q q => ⟨_, _, rfl, q⟩)) (A8q _ _) k⟩
theorem AT7 (T : Txt K mg) (cl : Cl K C) : Fn P w K mg base "do_uxth" 1 ["machine", "d", "n", "x"] (spH C 3 (D2 fun M d x => M.set d (x % 65536))) :=
  ATr T.A0i ATx (fun _ _ _ _ _ _ => ln4 (fun _ _ _ _ => rfl)) fun f cdv A outer s H m B M d u x Q E hr hM hd hx k => ⟨_, (@AAg _ _ _ (@ACn _ _ _ _ _ _ (@AAl _ _ _ _ _ _ _ _ ABt (pV 3 AKu 1 nms1 13 rfl rfl rfl) (pn 65535)) (@ACk _ _ _ _ _ _ _ (@AAo _ _ _ _ _ (pV 0 AKu 0 nms0 17 rfl rfl rfl) rfl) (pV 1 AKu 2 nms0 20 rfl rfl rfl) set_list (by intros; rfl)) rfl rfl rfl)), AQo cl hM rfl rfl hd (i64k (AAc rfl)) (Nat.lt_trans (Nat.mod_lt _ (by decide)) (by decide)) k⟩
theorem AT4 (T : Txt K mg) (cl : Cl K C) : Fn P w K mg base "do_uxtb" 1 ["machine", "d", "n", "x"] (spH C 3 (D2 fun M d x => M.set d (x % 256))) :=
  ATr T.A0j AUi (fun _ _ _ _ _ _ => ln4 (fun _ _ _ _ => rfl)) fun f cdv A outer s H m B M d u x Q E hr hM hd hx k => ⟨_, (@AAg _ _ _ (@ACn _ _ _ _ _ _ (@AAl _ _ _ _ _ _ _ _ ABt (pV 3 AKt 1 nms1 13 rfl rfl rfl) (pn 255)) (@ACk _ _ _ _ _ _ _ (@AAo _ _ _ _ _ (pV 0 AKt 0 nms0 17 rfl rfl rfl) rfl) (pV 1 AKt 2 nms0 20 rfl rfl rfl) set_list (by intros; rfl)) rfl rfl rfl)), AQo cl hM rfl rfl hd (i255 (AAc rfl)) (Nat.lt_trans (Nat.mod_lt _ (by decide)) (by decide)) k⟩
noncomputable def swap (x : Nat) : Nat := x / 256 % 256 + 256 * (x % 256) + 65536 * (x / 16777216 % 256) + 16777216 * (x / 65536 % 256)
theorem swap_lt (x : Nat) : swap x < 2 ^ 32 := by unfold swap; omega
noncomputable def ARe : Sp := fun vs H Q _ => ∃ x : Nat, vs = [vN x] ∧ x < 2 ^ 32 ∧ Q (vN (swap x)) H
theorem ACo (T : Txt K mg) : Fn P w K mg base "bytes_turned_in_halves" 1 ["value"] ARe := by
  refine T.AG0.fn AGl (fun _ _ _ _ _ _ => ln1 (fun _ => rfl)) (fun vs H Q E h => ?_) (fun f cdv A outer s H vs Q E hr h => ?_)
  · obtain ⟨x, rfl, _⟩ := h
    rfl
  obtain ⟨x, rfl, hx, k⟩ := h
  refine ⟨_, (@AAg _ _ _ (@AAw _ _ _ _ (@AAl _ _ _ _ _ _ _ _ n_or (@AAl _ _ _ _ _ _ _ _ AX1 (@AAl _ _ _ _ _ _ _ _ ABt (pV 0 ADn 0 nms0 21 rfl rfl rfl) (pn 16711935)) (pn 8)) (@AAl _ _ _ _ _ _ _ _ ABt (@AAl _ _ _ _ _ _ _ _ AEj (pV 0 ADn 0 nms0 21 rfl rfl rfl) (pn 8)) (pn 16711935))))), AOr (v := vN (swap x)) (AFw (is_n (AIw (d := Sm) (is_n (AAc rfl) is_c) is_c ⟨Nat.lt_of_le_of_lt Nat.and_le_left (Nat.lt_trans hx (by decide)), by decide⟩) (is_n (is_n (AAc rfl) is_c) is_c)) (congrArg vN (AUe x hx))) k⟩
theorem ANi {σ : L2.St} {H : Hp} {te : TE} {x : Nat} (h : Is te σ H (vN x)) (hx : x < 2 ^ 32) : Is (tFn ARe (ABx te tNil)) σ H (vN (swap x)) := APf (AAe h AAs) fun Q q => ⟨x, rfl, hx, q⟩
noncomputable def rev (x : Nat) : Nat := swap x % 65536 * 65536 + swap x / 65536
theorem AYh (T : Txt K mg) (cl : Cl K C) : Fn P w K mg base "do_rev" 2 ["machine", "d", "n", "x"] (spH C 3 (D2 fun M d x => M.set d (rev x))) := by
  have G_bytes_turned_in_halves := ACo (P := P) (w := w) (base := base) T
  refine ATr T.A5p ARl (fun _ _ _ _ _ _ => ln4 (fun _ _ _ _ => rfl)) fun f cdv A outer s H m B M d u x Q E hr hM hd hx k => ⟨_, (@AAf _ _ _ _ _ (@ABk _ _ 4 _ _ _ _ ARl.nd rfl (Or.inl (lj AGp 2 rfl)) (@ABy _ _ _ _ _ _ _ _ _ _ G_bytes_turned_in_halves (hmo hr) (lj AGp 0 rfl) (@AAa _ _ _ _ _ (pV 3 AGp 1 nms1 13 rfl rfl rfl) AAi rfl) (nj nms3 23 rfl).1 rfl rfl) rfl (.inl rfl)) (@AAg _ _ _ (@ACn _ _ _ _ _ _ (@AAl _ _ _ _ _ _ _ _ n_or (@AAl _ _ _ _ _ _ _ _ AX1 (@AAl _ _ _ _ _ _ _ _ ABt (pV 4 AGp 2 nms3 12 rfl rfl rfl) (pn 65535)) (pn 16)) (@AAl _ _ _ _ _ _ _ _ AEj (pV 4 AGp 2 nms3 12 rfl rfl rfl) (pn 16))) (@ACk _ _ _ _ _ _ _ (@AAo _ _ _ _ _ (pV 0 AGp 3 nms0 17 rfl rfl rfl) rfl) (pV 1 AGp 4 nms0 20 rfl rfl rfl) set_list (by intros; rfl)) rfl rfl rfl))), ?_⟩
  have hl := swap_lt x
  have l2 : swap x / 2 ^ 16 < 2 ^ 16 := by omega
  have er : swap x % 65536 * 2 ^ 16 ||| swap x / 2 ^ 16 = rev x := by
    rw [Nat.mul_comm, ← Nat.two_pow_add_eq_or_of_lt l2]
    unfold rev
    omega
  refine AGj (ANi (AAc rfl) hx) ?_
  refine AQo (x := rev x) cl hM rfl rfl hd (by exact AFw (is_n (AIw (d := Sm) (i64k (x := swap x) (AAc rfl)) is_c ⟨Nat.lt_trans (Nat.mod_lt _ (by decide)) (by decide), by decide⟩) (is_n (x := swap x) (AAc rfl) is_c)) (congrArg vN er)) (by unfold rev; omega) k
theorem AR9 (T : Txt K mg) (cl : Cl K C) : Fn P w K mg base "do_rev16" 2 ["machine", "d", "n", "x"] (spH C 3 (D2 fun M d x => M.set d (swap x))) := by
  have G_bytes_turned_in_halves := ACo (P := P) (w := w) (base := base) T
  exact ATr T.AXb AR8 (fun _ _ _ _ _ _ => ln4 (fun _ _ _ _ => rfl)) fun f cdv A outer s H m B M d u x Q E hr hM hd hx k => ⟨_, (@AAg _ _ _ (@ACn _ _ _ _ _ _ (@ABy _ _ _ _ _ _ _ _ _ _ G_bytes_turned_in_halves (hmo hr) (lj AHr 1 rfl) (@AAa _ _ _ _ _ (pV 3 AHr 2 nms1 13 rfl rfl rfl) AAi rfl) (nj nms3 23 rfl).1 rfl rfl) (@ACk _ _ _ _ _ _ _ (@AAo _ _ _ _ _ (pV 0 AHr 0 nms0 17 rfl rfl rfl) rfl) (pV 1 AHr 3 nms0 20 rfl rfl rfl) set_list (by intros; rfl)) rfl rfl rfl)), AQo cl hM rfl rfl hd (ANi (AAc rfl) hx) (swap_lt x) k⟩
theorem ASy (T : Txt K mg) (cl : Cl K C) : Fn P w K mg base "do_revsh" 2 ["machine", "d", "n", "x"] (spH C 3 (D2 fun M d x => M.set d (ws (swap (x % 65536)) 32768))) := by
  have G_bytes_turned_in_halves := ACo (P := P) (w := w) (base := base) T
  have G_with_sign := ACu (P := P) (w := w) (base := base) T
  exact ATr T.AXc ASs (fun _ _ _ _ _ _ => ln4 (fun _ _ _ _ => rfl)) fun f cdv A outer s H m B M d u x Q E hr hM hd hx k => ⟨_, (@AAg _ _ _ (@ACn _ _ _ _ _ _ (@AAl _ _ _ _ _ _ _ _ AG8 (@ABy _ _ _ _ _ _ _ _ _ _ G_with_sign (hmo hr) (lj AEy 1 rfl) (@AAa _ _ _ _ _ (@ABy _ _ _ _ _ _ _ _ _ _ G_bytes_turned_in_halves (hmo hr) (lj AEy 2 rfl) (@AAa _ _ _ _ _ (@AAl _ _ _ _ _ _ _ _ ABt (pV 3 AEy 3 nms1 13 rfl rfl rfl) (pn 65535)) AAi rfl) (nj nms3 23 rfl).1 rfl rfl) (@AAa _ _ _ _ _ (pn 32768) AAi rfl) rfl) (nj nms2 13 rfl).1 rfl rfl) (@AAt _ _ _ _ T.c_WORD (lj AEy 4 rfl) (nj nms0 23 rfl).1)) (@ACk _ _ _ _ _ _ _ (@AAo _ _ _ _ _ (pV 0 AEy 0 nms0 17 rfl rfl rfl) rfl) (pV 1 AEy 5 nms0 20 rfl rfl rfl) set_list (by intros; rfl)) rfl rfl rfl)), AQo cl hM rfl rfl hd (zW (APf (AAe (ANi (i64k (AAc rfl)) (Nat.lt_trans (Nat.mod_lt _ (by decide)) (by decide))) (AAe is_c AAs)) fun Q q => ⟨_, _, rfl, q⟩)) (A8q _ _) k⟩
noncomputable abbrev pl (M : Mx) (n x : Nat) : Nat := (rg M n + x) % 2 ^ 32
noncomputable def Mx.st (M : Mx) (d p n : Nat) : Mx := if Sd12.place n p = true then M.store p (rg M d) n else M.bad
noncomputable def Mx.ld (M : Mx) (d p n y : Nat) : Mx := if Sd12.place n p = true then M.set d y else M.bad
section
variable {σ : L2.St} {H : Hp} {te : TE} {m : Addr} {B : Ad} {M : Mx} {D : Ends} {d n x p s : Nat}
theorem A1j (cl : Cl K C) (hM : MAt C H m B M) (e0 : σ[0]? = some (some (.ref m))) (e2 : σ[2]? = some (some (vN n))) (e3 : σ[3]? = some (some (vN x))) (hn : n < 16) : Is (tOp oAnd (tOp (rN fun a b => a + b) (tRg K) (tVar 3)) tW) σ H (vN (pl M n x)) := iW (is_n (ALy cl hM e0 e2 hn) (AAc e3))
theorem BDm (hM : MAt C H m B M) (e0 : σ[0]? = some (some (.ref m))) (e1 : σ[1]? = some (some (vN d))) (hd : d < 16) (hp : Is te σ H (vN p)) (hs : 0 < s) (k : ∀ H', Chg B m H H' → MAt C H' m B (M.st d p s) → D.nx σ H') : AOi (tFn (spM C 3 A1i) (ABx (tVar 0) (ABx (tVar 1) (ABx te (ABx (tC (.int (s : Int))) tNil))))) D σ H :=
  AJv (AAe (AAc e0) (AAe (AAc e1) (AAe hp (AAe is_c AAs)))) ⟨m, B, M, _, rfl, rfl, hM, d, p, s, rfl, hd, hs, k⟩
theorem dr_lw (hM : MAt C H m B M) (e0 : σ[0]? = some (some (.ref m))) (e1 : σ[1]? = some (some (vN d))) (hd : d < 16) (hp : Is te σ H (vN p)) (k : ∀ H', Chg B m H H' → MAt C H' m B (M.ld d p 4 (word M.mem p)) → D.nx σ H') : AOi (tFn (spM C 2 BAf) (ABx (tVar 0) (ABx (tVar 1) (ABx te tNil)))) D σ H :=
  AJv (AAe (AAc e0) (AAe (AAc e1) (AAe hp AAs))) ⟨m, B, M, _, rfl, rfl, hM, d, p, rfl, hd, k⟩
theorem BCd (hM : MAt C H m B M) (e0 : σ[0]? = some (some (.ref m))) (e1 : σ[1]? = some (some (vN d))) (e3 : σ[3]? = some (some (vN x))) (hd : d < 16) (k : ∀ H', Chg B m H H' → MAt C H' m B (M.ld d (rg M 15 / 4 * 4 + x) 4 (word M.mem (rg M 15 / 4 * 4 + x))) → D.nx σ H') : AOi (tFn (spM C 2 BAf) (ABx (tVar 0) (ABx (tVar 1) (ABx (tFn (spM C 1 BAx) (ABx (tVar 0) (ABx (tVar 3) tNil))) tNil)))) D σ H :=
  show tVar 0 σ H (fun v0 H0 => tVar 1 σ H0 fun v1 H1 => tFn (spM C 1 BAx) (ABx (tVar 0) (ABx (tVar 3) tNil)) σ H1 fun v2 H2 => spM C 2 BAf [v0, v1, v2] H2 (fun _ H3 => D.nx σ H3) E0) from
  AAc e0 _ (AAc e1 _ (AJv (AAe (AAc e0) (AAe (AAc e3) AAs)) ⟨m, B, M, _, rfl, rfl, hM, x, rfl, fun H1 c1 hM1 => ⟨m, B, M, _, rfl, rfl, hM1, d, _, rfl, hd, fun H2 c2 hM2 => k H2 (c1.trans c2) hM2⟩⟩))
theorem BEd (hM : MAt C H m B M) (e0 : σ[0]? = some (some (.ref m))) (e1 : σ[1]? = some (some (vN d))) (hd : d < 16) (hp : Is te σ H (vN p)) (k : ∀ H', Chg B m H H' → MAt C H' m B (M.ld d p 2 (ws (half M.mem p) s)) → D.nx σ H') : AOi (tFn (spM C 3 BD4) (ABx (tVar 0) (ABx (tVar 1) (ABx te (ABx (tC (.int (s : Int))) tNil))))) D σ H :=
  AJv (AAe (AAc e0) (AAe (AAc e1) (AAe hp (AAe is_c AAs)))) ⟨m, B, M, _, rfl, rfl, hM, d, p, s, rfl, hd, k⟩
theorem BDz (hM : MAt C H m B M) (e0 : σ[0]? = some (some (.ref m))) (e1 : σ[1]? = some (some (vN d))) (hd : d < 16) (hp : Is te σ H (vN p)) (k : ∀ H', Chg B m H H' → MAt C H' m B (M.ld d p 1 (ws (M.mem.getD p 0) s)) → D.nx σ H') : AOi (tFn (spM C 3 BEk) (ABx (tVar 0) (ABx (tVar 1) (ABx te (ABx (tC (.int (s : Int))) tNil))))) D σ H :=
  AJv (AAe (AAc e0) (AAe (AAc e1) (AAe hp (AAe is_c AAs)))) ⟨m, B, M, _, rfl, rfl, hM, d, p, s, rfl, hd, k⟩
end
theorem AYn (T : Txt K mg) (cl : Cl K C) : Fn P w K mg base "do_str" 3 ["machine", "d", "n", "x"] (spH C 3 (D3 fun M d n x => M.st d (pl M n x) 4)) := by
  have G_store := AQz (P := P) (w := w) (base := base) T cl
  exact AJu T.A5q AY9 (fun _ _ _ _ _ _ => ln4 (fun _ _ _ _ => rfl)) fun f cdv A outer s H m B M d n x Q E hr hM hd hn hx k => ⟨_, (@AAg _ _ _ (@ACe _ _ _ _ (@ABy _ _ _ _ _ _ _ _ _ _ G_store (hmo hr) (lj AGt 0 rfl) (@AAa _ _ _ _ _ (pV 0 AGt 1 nms0 17 rfl rfl rfl) (@AAa _ _ _ _ _ (pV 1 AGt 2 nms0 20 rfl rfl rfl) (@AAa _ _ _ _ _ (@AAl _ _ _ _ _ _ _ _ ABt (@AAl _ _ _ _ _ _ _ _ AHo (@ACz _ _ _ _ _ _ _ AAz (@AAo _ _ _ _ _ (pV 0 AGt 1 nms0 17 rfl rfl rfl) rfl) (pV 2 AGt 3 nms1 12 rfl rfl rfl) (fun _ _ => rfl)) (pV 3 AGt 4 nms1 13 rfl rfl rfl)) (@AAt _ _ _ _ T.c_WORD (lj AGt 5 rfl) (nj nms0 23 rfl).1)) (@AAa _ _ _ _ _ (pn 4) AAi rfl) rfl) rfl) rfl) (nj nms4 3 rfl).1 rfl rfl) rfl)), BDm (s := 4) hM rfl rfl hd (A1j cl hM rfl rfl rfl hn) (by decide) k⟩
theorem AW0 (T : Txt K mg) (cl : Cl K C) : Fn P w K mg base "do_strh" 3 ["machine", "d", "n", "x"] (spH C 3 (D3 fun M d n x => M.st d (pl M n x) 2)) := by
  have G_store := AQz (P := P) (w := w) (base := base) T cl
  exact AJu T.A0k AVk (fun _ _ _ _ _ _ => ln4 (fun _ _ _ _ => rfl)) fun f cdv A outer s H m B M d n x Q E hr hM hd hn hx k => ⟨_, (@AAg _ _ _ (@ACe _ _ _ _ (@ABy _ _ _ _ _ _ _ _ _ _ G_store (hmo hr) (lj AFd 0 rfl) (@AAa _ _ _ _ _ (pV 0 AFd 1 nms0 17 rfl rfl rfl) (@AAa _ _ _ _ _ (pV 1 AFd 2 nms0 20 rfl rfl rfl) (@AAa _ _ _ _ _ (@AAl _ _ _ _ _ _ _ _ ABt (@AAl _ _ _ _ _ _ _ _ AHo (@ACz _ _ _ _ _ _ _ AAz (@AAo _ _ _ _ _ (pV 0 AFd 1 nms0 17 rfl rfl rfl) rfl) (pV 2 AFd 3 nms1 12 rfl rfl rfl) (fun _ _ => rfl)) (pV 3 AFd 4 nms1 13 rfl rfl rfl)) (@AAt _ _ _ _ T.c_WORD (lj AFd 5 rfl) (nj nms0 23 rfl).1)) (@AAa _ _ _ _ _ (pn 2) AAi rfl) rfl) rfl) rfl) (nj nms4 3 rfl).1 rfl rfl) rfl)), BDm (s := 2) hM rfl rfl hd (A1j cl hM rfl rfl rfl hn) (by decide) k⟩
theorem AUv (T : Txt K mg) (cl : Cl K C) : Fn P w K mg base "do_strb" 3 ["machine", "d", "n", "x"] (spH C 3 (D3 fun M d n x => M.st d (pl M n x) 1)) := by
  have G_store := AQz (P := P) (w := w) (base := base) T cl
  exact AJu T.A0l AV7 (fun _ _ _ _ _ _ => ln4 (fun _ _ _ _ => rfl)) fun f cdv A outer s H m B M d n x Q E hr hM hd hn hx k => ⟨_, (@AAg _ _ _ (@ACe _ _ _ _ (@ABy _ _ _ _ _ _ _ _ _ _ G_store (hmo hr) (lj AFk 0 rfl) (@AAa _ _ _ _ _ (pV 0 AFk 1 nms0 17 rfl rfl rfl) (@AAa _ _ _ _ _ (pV 1 AFk 2 nms0 20 rfl rfl rfl) (@AAa _ _ _ _ _ (@AAl _ _ _ _ _ _ _ _ ABt (@AAl _ _ _ _ _ _ _ _ AHo (@ACz _ _ _ _ _ _ _ AAz (@AAo _ _ _ _ _ (pV 0 AFk 1 nms0 17 rfl rfl rfl) rfl) (pV 2 AFk 3 nms1 12 rfl rfl rfl) (fun _ _ => rfl)) (pV 3 AFk 4 nms1 13 rfl rfl rfl)) (@AAt _ _ _ _ T.c_WORD (lj AFk 5 rfl) (nj nms0 23 rfl).1)) (@AAa _ _ _ _ _ (pn 1) AAi rfl) rfl) rfl) rfl) (nj nms4 3 rfl).1 rfl rfl) rfl)), BDm (s := 1) hM rfl rfl hd (A1j cl hM rfl rfl rfl hn) (by decide) k⟩
theorem AXi (T : Txt K mg) (cl : Cl K C) : Fn P w K mg base "do_ldr" 4 ["machine", "d", "n", "x"] (spH C 3 (D3 fun M d n x => M.ld d (pl M n x) 4 (word M.mem (pl M n x)))) := by
  have G_load_word := AKz (P := P) (w := w) (base := base) T cl
  exact AJu T.A5r AXz (fun _ _ _ _ _ _ => ln4 (fun _ _ _ _ => rfl)) fun f cdv A outer s H m B M d n x Q E hr hM hd hn hx k => ⟨_, (@AAg _ _ _ (@ACe _ _ _ _ (@ABy _ _ _ _ _ _ _ _ _ _ G_load_word (hmo hr) (lj AGm 0 rfl) (@AAa _ _ _ _ _ (pV 0 AGm 1 nms0 17 rfl rfl rfl) (@AAa _ _ _ _ _ (pV 1 AGm 2 nms0 20 rfl rfl rfl) (@AAa _ _ _ _ _ (@AAl _ _ _ _ _ _ _ _ ABt (@AAl _ _ _ _ _ _ _ _ AHo (@ACz _ _ _ _ _ _ _ AAz (@AAo _ _ _ _ _ (pV 0 AGm 1 nms0 17 rfl rfl rfl) rfl) (pV 2 AGm 3 nms1 12 rfl rfl rfl) (fun _ _ => rfl)) (pV 3 AGm 4 nms1 13 rfl rfl rfl)) (@AAt _ _ _ _ T.c_WORD (lj AGm 5 rfl) (nj nms0 23 rfl).1)) AAi rfl) rfl) rfl) (nj nms4 5 rfl).1 rfl rfl) rfl)), dr_lw hM rfl rfl hd (A1j cl hM rfl rfl rfl hn) k⟩
theorem AWd (T : Txt K mg) (cl : Cl K C) : Fn P w K mg base "do_ldrh" 3 ["machine", "d", "n", "x"] (spH C 3 (D3 fun M d n x => M.ld d (pl M n x) 2 (ws (half M.mem (pl M n x)) 0))) := by
  have G_load_half := AKd (P := P) (w := w) (base := base) T cl
  exact AJu T.A0m AVp (fun _ _ _ _ _ _ => ln4 (fun _ _ _ _ => rfl)) fun f cdv A outer s H m B M d n x Q E hr hM hd hn hx k => ⟨_, (@AAg _ _ _ (@ACe _ _ _ _ (@ABy _ _ _ _ _ _ _ _ _ _ G_load_half (hmo hr) (lj AFi 0 rfl) (@AAa _ _ _ _ _ (pV 0 AFi 1 nms0 17 rfl rfl rfl) (@AAa _ _ _ _ _ (pV 1 AFi 2 nms0 20 rfl rfl rfl) (@AAa _ _ _ _ _ (@AAl _ _ _ _ _ _ _ _ ABt (@AAl _ _ _ _ _ _ _ _ AHo (@ACz _ _ _ _ _ _ _ AAz (@AAo _ _ _ _ _ (pV 0 AFi 1 nms0 17 rfl rfl rfl) rfl) (pV 2 AFi 3 nms1 12 rfl rfl rfl) (fun _ _ => rfl)) (pV 3 AFi 4 nms1 13 rfl rfl rfl)) (@AAt _ _ _ _ T.c_WORD (lj AFi 5 rfl) (nj nms0 23 rfl).1)) (@AAa _ _ _ _ _ (pn 0) AAi rfl) rfl) rfl) rfl) (nj nms4 6 rfl).1 rfl rfl) rfl)), BEd (s := 0) hM rfl rfl hd (A1j cl hM rfl rfl rfl hn) k⟩
theorem ASn (T : Txt K mg) (cl : Cl K C) : Fn P w K mg base "do_ldrsh" 3 ["machine", "d", "n", "x"] (spH C 3 (D3 fun M d n x => M.ld d (pl M n x) 2 (ws (half M.mem (pl M n x)) 32768))) := by
  have G_load_half := AKd (P := P) (w := w) (base := base) T cl
  exact AJu T.AXd ASq (fun _ _ _ _ _ _ => ln4 (fun _ _ _ _ => rfl)) fun f cdv A outer s H m B M d n x Q E hr hM hd hn hx k => ⟨_, (@AAg _ _ _ (@ACe _ _ _ _ (@ABy _ _ _ _ _ _ _ _ _ _ G_load_half (hmo hr) (lj AD9 0 rfl) (@AAa _ _ _ _ _ (pV 0 AD9 1 nms0 17 rfl rfl rfl) (@AAa _ _ _ _ _ (pV 1 AD9 2 nms0 20 rfl rfl rfl) (@AAa _ _ _ _ _ (@AAl _ _ _ _ _ _ _ _ ABt (@AAl _ _ _ _ _ _ _ _ AHo (@ACz _ _ _ _ _ _ _ AAz (@AAo _ _ _ _ _ (pV 0 AD9 1 nms0 17 rfl rfl rfl) rfl) (pV 2 AD9 3 nms1 12 rfl rfl rfl) (fun _ _ => rfl)) (pV 3 AD9 4 nms1 13 rfl rfl rfl)) (@AAt _ _ _ _ T.c_WORD (lj AD9 5 rfl) (nj nms0 23 rfl).1)) (@AAa _ _ _ _ _ (pn 32768) AAi rfl) rfl) rfl) rfl) (nj nms4 6 rfl).1 rfl rfl) rfl)), BEd (s := 32768) hM rfl rfl hd (A1j cl hM rfl rfl rfl hn) k⟩
theorem AW4 (T : Txt K mg) (cl : Cl K C) : Fn P w K mg base "do_ldrb" 3 ["machine", "d", "n", "x"] (spH C 3 (D3 fun M d n x => M.ld d (pl M n x) 1 (ws (M.mem.getD (pl M n x) 0) 0))) := by
  have G_load_byte := AK6 (P := P) (w := w) (base := base) T cl
  exact AJu T.A0n ATk (fun _ _ _ _ _ _ => ln4 (fun _ _ _ _ => rfl)) fun f cdv A outer s H m B M d n x Q E hr hM hd hn hx k => ⟨_, (@AAg _ _ _ (@ACe _ _ _ _ (@ABy _ _ _ _ _ _ _ _ _ _ G_load_byte (hmo hr) (lj AFv 0 rfl) (@AAa _ _ _ _ _ (pV 0 AFv 1 nms0 17 rfl rfl rfl) (@AAa _ _ _ _ _ (pV 1 AFv 2 nms0 20 rfl rfl rfl) (@AAa _ _ _ _ _ (@AAl _ _ _ _ _ _ _ _ ABt (@AAl _ _ _ _ _ _ _ _ AHo (@ACz _ _ _ _ _ _ _ AAz (@AAo _ _ _ _ _ (pV 0 AFv 1 nms0 17 rfl rfl rfl) rfl) (pV 2 AFv 3 nms1 12 rfl rfl rfl) (fun _ _ => rfl)) (pV 3 AFv 4 nms1 13 rfl rfl rfl)) (@AAt _ _ _ _ T.c_WORD (lj AFv 5 rfl) (nj nms0 23 rfl).1)) (@AAa _ _ _ _ _ (pn 0) AAi rfl) rfl) rfl) rfl) (nj nms4 7 rfl).1 rfl rfl) rfl)), BDz (s := 0) hM rfl rfl hd (A1j cl hM rfl rfl rfl hn) k⟩
theorem ASm (T : Txt K mg) (cl : Cl K C) : Fn P w K mg base "do_ldrsb" 3 ["machine", "d", "n", "x"] (spH C 3 (D3 fun M d n x => M.ld d (pl M n x) 1 (ws (M.mem.getD (pl M n x) 0) 128))) := by
  have G_load_byte := AK6 (P := P) (w := w) (base := base) T cl
  exact AJu T.AXe AR7 (fun _ _ _ _ _ _ => ln4 (fun _ _ _ _ => rfl)) fun f cdv A outer s H m B M d n x Q E hr hM hd hn hx k => ⟨_, (@AAg _ _ _ (@ACe _ _ _ _ (@ABy _ _ _ _ _ _ _ _ _ _ G_load_byte (hmo hr) (lj AEf 0 rfl) (@AAa _ _ _ _ _ (pV 0 AEf 1 nms0 17 rfl rfl rfl) (@AAa _ _ _ _ _ (pV 1 AEf 2 nms0 20 rfl rfl rfl) (@AAa _ _ _ _ _ (@AAl _ _ _ _ _ _ _ _ ABt (@AAl _ _ _ _ _ _ _ _ AHo (@ACz _ _ _ _ _ _ _ AAz (@AAo _ _ _ _ _ (pV 0 AEf 1 nms0 17 rfl rfl rfl) rfl) (pV 2 AEf 3 nms1 12 rfl rfl rfl) (fun _ _ => rfl)) (pV 3 AEf 4 nms1 13 rfl rfl rfl)) (@AAt _ _ _ _ T.c_WORD (lj AEf 5 rfl) (nj nms0 23 rfl).1)) (@AAa _ _ _ _ _ (pn 128) AAi rfl) rfl) rfl) rfl) (nj nms4 7 rfl).1 rfl rfl) rfl)), BDz (s := 128) hM rfl rfl hd (A1j cl hM rfl rfl rfl hn) k⟩
noncomputable def A1b (_ : Hp) (M : Mx) (us : List V) (k : V → Mx → Prop) : Prop := ∃ (d : Nat) (u : V) (x : Nat), us = [vN d, u, vN x] ∧ d < 16 ∧ k .non (M.ld d (rg M 15 / 4 * 4 + x) 4 (word M.mem (rg M 15 / 4 * 4 + x)))
theorem AQn (T : Txt K mg) (cl : Cl K C) : Fn P w K mg base "do_ldr_pc" 4 ["machine", "d", "n", "x"] (spH C 3 A1b) := by
  have G_load_word := AKz (P := P) (w := w) (base := base) T cl
  have G_place_by_program := AFy (P := P) (w := w) (base := base) T cl
  refine m_fn T.ATc AP5 (fun _ _ _ _ _ _ => ln4 (fun _ _ _ _ => rfl)) rfl (fun f cdv A outer s H m B M us Q E hr hM h => ?_)
  obtain ⟨d, u, x, rfl, hd, k⟩ := h
  refine ⟨_, (@AAg _ _ _ (@ACe _ _ _ _ (@ABy _ _ _ _ _ _ _ _ _ _ G_load_word (hmo hr) (lj AEa 0 rfl) (@AAa _ _ _ _ _ (pV 0 AEa 1 nms0 17 rfl rfl rfl) (@AAa _ _ _ _ _ (pV 1 AEa 2 nms0 20 rfl rfl rfl) (@AAa _ _ _ _ _ (@ABy _ _ _ _ _ _ _ _ _ _ G_place_by_program (hmo hr) (lj AEa 3 rfl) (@AAa _ _ _ _ _ (pV 0 AEa 1 nms0 17 rfl rfl rfl) (@AAa _ _ _ _ _ (pV 3 AEa 4 nms1 13 rfl rfl rfl) AAi rfl) rfl) (nj nms3 22 rfl).1 rfl rfl) AAi rfl) rfl) rfl) (nj nms4 5 rfl).1 rfl rfl) rfl)), ?_⟩
  exact BCd hM rfl rfl rfl hd k
end
end Chip
namespace Chip
open PySem L2 LX
noncomputable def D1 (g : Mx → Nat → Mx) (_ : Hp) (M : Mx) (us : List V) (k : V → Mx → Prop) : Prop := ∃ (u1 u2 : V) (x : Nat), us = [u1, u2, vN x] ∧ x < 2 ^ 32 ∧ k .non (g M x)
noncomputable def D0 (g : Mx → Mx) (_ : Hp) (M : Mx) (us : List V) (k : V → Mx → Prop) : Prop := ∃ (u1 u2 u3 : V), us = [u1, u2, u3] ∧ k .non (g M)
noncomputable def DZ (g : Mx → Int → Mx) (_ : Hp) (M : Mx) (us : List V) (k : V → Mx → Prop) : Prop := ∃ (u1 u2 : V) (z : Int), us = [u1, u2, .int z] ∧ rg M 15 + 1 < 2 ^ 32 ∧ k .non (g M z)
noncomputable def Mx.go (M : Mx) (t : Nat) : Mx := if t % 2 = 1 then { M with on := t - 1 } else M.bad
noncomputable def R_go (M : Mx) (us : List V) (k : V → Mx → Prop) : Prop := ∃ t : Nat, us = [vN t] ∧ k .non (M.go t)
section
variable {P : Program} {w : World} {K : Frag} {mg : Str → Option Value} {base : Heap} {C : Addr}
theorem A9b (t : Nat) : (((t % 2 : Nat) : Int) != 0) = decide (t % 2 = 1) := by
  rcases Nat.mod_two_eq_zero_or_one t with e | e <;> rw [e] <;> rfl
theorem AGe (T : Txt K mg) (cl : Cl K C) : Fn P w K mg base "go_to_marked" 1 ["machine", "target"] (spM C 1 R_go) := by
  refine m_fn T.AOh AL2 (fun _ _ _ _ _ _ => ln2 (fun _ _ => rfl)) rfl (fun f cdv A outer s H m B M us Q E hr hM h => ?_)
  obtain ⟨t, rfl, k⟩ := h
  refine ⟨_, (@AAg _ _ _ (@AEn _ _ _ _ _ _ _ _ (@AFf _ _ _ (@AAl _ _ _ _ _ _ _ _ ABt (pV 1 ADh 0 nms4 14 rfl rfl rfl) (pn 1)) (fun _ => rfl)) (@AAg _ _ _ (@ACs _ _ _ _ _ _ _ _ (pV 0 ADh 1 nms0 17 rfl rfl rfl) (@AAl _ _ _ _ _ _ _ _ AMt (pV 1 ADh 0 nms4 14 rfl rfl rfl) (pn 1)) rfl)) (@AAg _ _ _ (@ACs _ _ _ _ _ _ _ _ (pV 0 ADh 1 nms0 17 rfl rfl rfl) (@AAt _ _ _ _ T.c_NO_PLACE (lj ADh 2 rfl) (nj nms4 1 rfl).1) rfl)))), ?_⟩
  unfold Mx.go at k
  refine ifsP (p := t % 2 = 1) (ANn (x := t % 2) (by exact i1 (AAc rfl)) (A9b t)) (fun e => ?_) (fun e => ?_)
  · rw [if_pos e] at k
    refine A5d (k := t - 1) cl hM (by exact AFw (A5b (a := (t : Int)) (AAc rfl) is_c) (congrArg V.int (by show (t : Int) - ((1 : Nat) : Int) = _; omega))) (AAc rfl) k
  · rw [if_neg e] at k
    exact ASh cl hM is_c (AAc rfl) k
theorem A2u (T : Txt K mg) (cl : Cl K C) : Fn P w K mg base "do_bx" 2 ["machine", "d", "n", "x"] (spH C 3 (D1 fun M x => M.go x)) := by
  have G_go_to_marked := AGe (P := P) (w := w) (base := base) T cl
  refine m_fn T.BAa A4i (fun _ _ _ _ _ _ => ln4 (fun _ _ _ _ => rfl)) rfl (fun f cdv A outer s H m B M us Q E hr hM h => ?_)
  obtain ⟨u1, u2, x, rfl, hx, k⟩ := h
  exact ⟨_, (@AAg _ _ _ (@ACe _ _ _ _ (@ABy _ _ _ _ _ _ _ _ _ _ G_go_to_marked (hmo hr) (lj AQc 0 rfl) (@AAa _ _ _ _ _ (pV 0 AQc 1 nms0 17 rfl rfl rfl) (@AAa _ _ _ _ _ (pV 3 AQc 2 nms1 13 rfl rfl rfl) AAi rfl) rfl) (nj nms4 12 rfl).1 rfl rfl) rfl)), ATn (AAe (AAc rfl) (AAe (AAc rfl) AAs)) ⟨m, B, M, _, rfl, rfl, hM, x, rfl, k⟩⟩
noncomputable def Mx.blx (M : Mx) (x : Nat) : Mx := if x % 2 = 1 then ({ M with on := x - 1 } : Mx).set 14 (M.on + 1) else M.bad
noncomputable def BEo (_ : Hp) (M : Mx) (us : List V) (k : V → Mx → Prop) : Prop := ∃ (u1 u2 : V) (x : Nat), us = [u1, u2, vN x] ∧ M.en = 0 ∧ M.on + 1 < 2 ^ 32 ∧ k .non (M.blx x)
theorem AZk (T : Txt K mg) (cl : Cl K C) : Fn P w K mg base "do_blx" 2 ["machine", "d", "n", "x"] (spH C 3 BEo) := by
  have G_go_to_marked := AGe (P := P) (w := w) (base := base) T cl
  refine m_fn T.A5v ARf (fun _ _ _ _ _ _ => ln4 (fun _ _ _ _ => rfl)) rfl (fun f cdv A outer s H m B M us Q E hr hM h => ?_)
  obtain ⟨u1, u2, x, rfl, he, ho, k⟩ := h
  refine ⟨_, (@AAf _ _ _ _ _ (@ABk _ _ 4 _ _ _ _ ARf.nd rfl (Or.inl (lj AEh 1 rfl)) (@AAl _ _ _ _ _ _ _ _ AHo (@AAo _ _ _ _ _ (pV 0 AEh 0 nms0 17 rfl rfl rfl) rfl) (pn 1)) rfl (.inl rfl)) (@AAf _ _ _ _ _ (@ACe _ _ _ _ (@ABy _ _ _ _ _ _ _ _ _ _ G_go_to_marked (hmo hr) (lj AEh 2 rfl) (@AAa _ _ _ _ _ (pV 0 AEh 0 nms0 17 rfl rfl rfl) (@AAa _ _ _ _ _ (pV 3 AEh 3 nms1 13 rfl rfl rfl) AAi rfl) rfl) (nj nms4 12 rfl).1 rfl rfl) rfl) (@AAg _ _ _ (@AEn _ _ _ _ _ _ _ _ (@AAy _ _ _ _ _ _ _ _ A54 (@AAo _ _ _ _ _ (pV 0 AEh 0 nms0 17 rfl rfl rfl) rfl) (@AAt _ _ _ _ T.c_NO_PLACE (lj AEh 4 rfl) (nj nms4 1 rfl).1) rfl) (@AAg _ _ _ (@ACn _ _ _ _ _ _ (pV 4 AEh 1 nms4 15 rfl rfl rfl) (@ACk _ _ _ _ _ _ _ (@AAo _ _ _ _ _ (pV 0 AEh 0 nms0 17 rfl rfl rfl) rfl) (@AAt _ _ _ _ T.c_LR (lj AEh 5 rfl) (nj nms2 6 rfl).1) set_list (by intros; rfl)) rfl rfl rfl)) ABf)))), ?_⟩
  refine AGj (is_n (ADg cl hM cl.onward AR1 (AAc rfl)) is_c) ?_
  refine ARj (AAe (AAc rfl) (AAe (AAc rfl) AAs)) ⟨m, B, M, _, rfl, rfl, hM, x, rfl, fun H1 c1 hM1 => ?_⟩
  unfold Mx.blx at k
  unfold Mx.go at hM1
  by_cases e : x % 2 = 1
  · rw [if_pos e] at k hM1
    refine ifsP (p := ¬ M.en = 2) (by exact AZu (ABg (AVy (ADg cl hM1 cl.end_ AP2 (AAc rfl)) is_c)) decide_not.symm) (fun _ => ?_) (fun z => absurd (by rw [he]; decide) z)
    refine AAc (i := 4) rfl _ (AG3 (n := 14) cl hM1 (AAc rfl) is_c (by decide) ho fun H2 c2 hM2 => k H2 (c1.trans c2) hM2)
  · rw [if_neg e] at k hM1
    refine ifsP (p := ¬ (2 : Nat) = 2) (by exact AZu (ABg (AVy (ADg cl hM1 cl.end_ AP2 (AAc rfl)) is_c)) decide_not.symm) (fun z => absurd rfl z) (fun _ => ?_)
    exact k H1 c1 hM1
theorem A2g {σ : L2.St} {H : Hp} {m : Addr} {B : Ad} {M : Mx} {z : Int} (cl : Cl K C) (hM : MAt C H m B M) (e0 : σ[0]? = some (some (.ref m))) (e3 : σ[3]? = some (some (.int z))) : Is (tOp zAnd (tOp (rI0 fun i j => .int (i + j)) (tOp (rIxL K) (tFld K (tVar 0) "regs") (tC (.int ((15 : Nat) : Int)))) (tVar 3)) tW) σ H (vN (((rg M 15 : Nat) + z) % 4294967296).toNat) := zW (A5b (BAh cl hM e0) (AAc e3))
noncomputable def Mx.far (M : Mx) (z : Int) : Mx := { M with on := (((rg M 15 : Nat) + z) % 4294967296).toNat }
theorem A84 (T : Txt K mg) (cl : Cl K C) : Fn P w K mg base "do_b" 1 ["machine", "d", "n", "x"] (spH C 3 (DZ Mx.far)) := by
  refine m_fn T.BDw A8l (fun _ _ _ _ _ _ => ln4 (fun _ _ _ _ => rfl)) rfl (fun f cdv A outer s H m B M us Q E hr hM h => ?_)
  obtain ⟨u1, u2, z, rfl, _, k⟩ := h
  exact ⟨_, (@AAg _ _ _ (@ACs _ _ _ _ _ _ _ _ (pV 0 AO8 0 nms0 17 rfl rfl rfl) (@AAl _ _ _ _ _ _ _ _ AG8 (@AAl _ _ _ _ _ _ _ _ AZd (@ACz _ _ _ _ _ _ _ AAz (@AAo _ _ _ _ _ (pV 0 AO8 0 nms0 17 rfl rfl rfl) rfl) (@AAt _ _ _ _ T.c_PC (lj AO8 1 rfl) (nj nms0 9 rfl).1) (fun _ _ => rfl)) (pV 3 AO8 2 nms1 13 rfl rfl rfl)) (@AAt _ _ _ _ T.c_WORD (lj AO8 3 rfl) (nj nms0 23 rfl).1)) rfl)), A5d cl hM (A2g cl hM rfl rfl) (AAc rfl) k⟩
noncomputable def hold (M : Mx) (c : Nat) : Bool := Sd12.holds ⟨[], M.n, M.z, M.c, M.v, fun _ => 0⟩ c
noncomputable def BEi (_ : Hp) (M : Mx) (us : List V) (k : V → Mx → Prop) : Prop := ∃ (c : Nat) (u2 : V) (z : Int), us = [vN c, u2, .int z] ∧ k .non (if hold M c = true then M.far z else M)
theorem ATf (T : Txt K mg) (cl : Cl K C) : Fn P w K mg base "do_b_if" 3 ["machine", "condition", "n", "x"] (spH C 3 BEi) := by
  have G_holds := A3k (P := P) (w := w) (base := base) T cl
  refine m_fn T.A0p AT1 (fun _ _ _ _ _ _ => ln4 (fun _ _ _ _ => rfl)) rfl (fun f cdv A outer s H m B M us Q E hr hM h => ?_)
  obtain ⟨c, u2, z, rfl, k⟩ := h
  refine ⟨_, (@AAg _ _ _ (@AEn _ _ _ _ _ _ _ _ (@AJ0 _ _ _ (@ABy _ _ _ _ _ _ _ _ _ _ G_holds (hmo hr) (lj AEp 0 rfl) (@AAa _ _ _ _ _ (pV 0 AEp 1 nms0 17 rfl rfl rfl) (@AAa _ _ _ _ _ (pV 1 AEp 2 nms2 12 rfl rfl rfl) AAi rfl) rfl) (nj nms4 16 rfl).1 rfl rfl) (by intro _; rfl)) (@AAg _ _ _ (@ACs _ _ _ _ _ _ _ _ (pV 0 AEp 1 nms0 17 rfl rfl rfl) (@AAl _ _ _ _ _ _ _ _ AG8 (@AAl _ _ _ _ _ _ _ _ AZd (@ACz _ _ _ _ _ _ _ AAz (@AAo _ _ _ _ _ (pV 0 AEp 1 nms0 17 rfl rfl rfl) rfl) (@AAt _ _ _ _ T.c_PC (lj AEp 3 rfl) (nj nms0 9 rfl).1) (fun _ _ => rfl)) (pV 3 AEp 4 nms1 13 rfl rfl rfl)) (@AAt _ _ _ _ T.c_WORD (lj AEp 5 rfl) (nj nms0 23 rfl).1)) rfl)) ABf)), ?_⟩
  refine AJv (AAe (AAc rfl) (AAe (AAc rfl) AAs)) ⟨m, B, M, _, rfl, rfl, hM, c, rfl, fun H1 c1 hM1 => ⟨_, rfl, ?_⟩⟩
  have k := k.next c1
  show if hold M c = true then _ else _
  cases e : hold M c with
  | true =>
    rw [e, if_pos rfl] at k
    exact iteT (A5d cl hM1 (by exact A2g cl hM1 rfl rfl) (AAc rfl) k)
  | false =>
    rw [e, if_neg Bool.false_ne_true] at k
    exact iteF (k H1 Chg.refl hM1)
theorem BCp {σ : L2.St} {H : Hp} {ta ti tv : TE} {m : Addr} {B : Ad} {M : Mx} {D : Ends} {u : TS} {n x : Nat} (cl : Cl K C) (hM : MAt C H m B M) (hv : Is tv σ H (vN x)) (ha : Is ta σ H (.ref m)) (hi : Is ti σ H (vN n)) (hn : n < 16) (hx : x < 2 ^ 32) (q : ∀ H', Chg B m H H' → MAt C H' m B (M.set n x) → u D σ H') :
    tSeq (tAsg tv (gSub (tFld K ta "regs") ti A3e)) u D σ H := hv _ (AG3 cl hM ha hi hn hx q)
theorem A4o (T : Txt K mg) (cl : Cl K C) : Fn P w K mg base "do_bl" 1 ["machine", "d", "n", "x"] (spH C 3 (DZ fun M z => (M.set 14 (rg M 15 + 1)).far z)) := by
  refine m_fn T.BAb A2o (fun _ _ _ _ _ _ => ln4 (fun _ _ _ _ => rfl)) rfl (fun f cdv A outer s H m B M us Q E hr hM h => ?_)
  obtain ⟨u1, u2, z, rfl, hl, k⟩ := h
  refine ⟨_, (@AAf _ _ _ _ _ (@ACn _ _ _ _ _ _ (@AAl _ _ _ _ _ _ _ _ AHo (@ACz _ _ _ _ _ _ _ AAz (@AAo _ _ _ _ _ (pV 0 AGr 0 nms0 17 rfl rfl rfl) rfl) (@AAt _ _ _ _ T.c_PC (lj AGr 1 rfl) (nj nms0 9 rfl).1) (fun _ _ => rfl)) (pn 1)) (@ACk _ _ _ _ _ _ _ (@AAo _ _ _ _ _ (pV 0 AGr 0 nms0 17 rfl rfl rfl) rfl) (@AAt _ _ _ _ T.c_LR (lj AGr 2 rfl) (nj nms2 6 rfl).1) set_list (by intros; rfl)) rfl rfl rfl) (@AAg _ _ _ (@ACs _ _ _ _ _ _ _ _ (pV 0 AGr 0 nms0 17 rfl rfl rfl) (@AAl _ _ _ _ _ _ _ _ AG8 (@AAl _ _ _ _ _ _ _ _ AZd (@ACz _ _ _ _ _ _ _ AAz (@AAo _ _ _ _ _ (pV 0 AGr 0 nms0 17 rfl rfl rfl) rfl) (@AAt _ _ _ _ T.c_PC (lj AGr 1 rfl) (nj nms0 9 rfl).1) (fun _ _ => rfl)) (pV 3 AGr 3 nms1 13 rfl rfl rfl)) (@AAt _ _ _ _ T.c_WORD (lj AGr 4 rfl) (nj nms0 23 rfl).1)) rfl))), ?_⟩
  refine BCp (n := 14) cl hM (is_n (BAh cl hM rfl) is_c) (AAc rfl) is_c (by decide) hl fun H1 c1 hM1 => ?_
  exact A5d cl hM1 (A2g cl hM1 rfl rfl) (AAc rfl) (k.next c1)
theorem AO4 (T : Txt K mg) (cl : Cl K C) : Fn P w K mg base "do_barrier" 1 ["machine", "d", "n", "x"] (spH C 3 (D0 fun M => { M with on := rg M 15 })) := by
  refine m_fn T.AQ7 AO5 (fun _ _ _ _ _ _ => ln4 (fun _ _ _ _ => rfl)) rfl (fun f cdv A outer s H m B M us Q E hr hM h => ?_)
  obtain ⟨u1, u2, u3, rfl, k⟩ := h
  exact ⟨_, (@AAg _ _ _ (@ACs _ _ _ _ _ _ _ _ (pV 0 AHc 0 nms0 17 rfl rfl rfl) (@ACz _ _ _ _ _ _ _ AAz (@AAo _ _ _ _ _ (pV 0 AHc 0 nms0 17 rfl rfl rfl) rfl) (@AAt _ _ _ _ T.c_PC (lj AHc 1 rfl) (nj nms0 9 rfl).1) (fun _ _ => rfl)) rfl)), A5d cl hM (BAh cl hM rfl) (AAc rfl) k⟩
theorem AXm (T : Txt K mg) (cl : Cl K C) : Fn P w K mg base "do_nop" 1 ["machine", "d", "n", "x"] (spH C 3 (D0 fun M => M)) := by
  refine m_fn T.A5w AX4 (fun _ _ _ _ _ _ => ln4 (fun _ _ _ _ => rfl)) rfl (fun f cdv A outer s H m B M us Q E hr hM h => ?_)
  obtain ⟨u1, u2, u3, rfl, k⟩ := h
  exact ⟨_, (@AAg _ _ _ A6g), k H Chg.refl hM⟩
theorem AWo (T : Txt K mg) (cl : Cl K C) : Fn P w K mg base "do_bkpt" 1 ["machine", "d", "n", "x"] (spH C 3 (D1 fun M x => { M with en := 3 + 256 * x })) := by
  refine m_fn T.A0q ATi (fun _ _ _ _ _ _ => ln4 (fun _ _ _ _ => rfl)) rfl (fun f cdv A outer s H m B M us Q E hr hM h => ?_)
  obtain ⟨u1, u2, x, rfl, hx, k⟩ := h
  exact ⟨_, (@AAg _ _ _ (@ACs _ _ _ _ _ _ _ _ (pV 0 AKk 0 nms0 17 rfl rfl rfl) (@AAl _ _ _ _ _ _ _ _ AHo (@AAt _ _ _ _ T.c_AT_BKPT (lj AKk 1 rfl) (nj nms4 17 rfl).1) (@AAl _ _ _ _ _ _ _ _ AOq (pn 256) (pV 3 AKk 2 nms1 13 rfl rfl rfl))) rfl)), ASh cl hM (is_n is_c (AIw is_c (AAc rfl) (by show 256 < 2 ^ 64; decide))) (AAc rfl) k⟩
theorem AZe (T : Txt K mg) (cl : Cl K C) : Fn P w K mg base "do_svc" 1 ["machine", "d", "n", "x"] (spH C 3 (D1 fun M x => { M with en := 4 + 256 * x })) := by
  refine m_fn T.A5x AYb (fun _ _ _ _ _ _ => ln4 (fun _ _ _ _ => rfl)) rfl (fun f cdv A outer s H m B M us Q E hr hM h => ?_)
  obtain ⟨u1, u2, x, rfl, hx, k⟩ := h
  exact ⟨_, (@AAg _ _ _ (@ACs _ _ _ _ _ _ _ _ (pV 0 AM3 0 nms0 17 rfl rfl rfl) (@AAl _ _ _ _ _ _ _ _ AHo (@AAt _ _ _ _ T.c_AT_SVC (lj AM3 1 rfl) (nj nms4 18 rfl).1) (@AAl _ _ _ _ _ _ _ _ AOq (pn 256) (pV 3 AM3 2 nms1 13 rfl rfl rfl))) rfl)), ASh cl hM (is_n is_c (AIw is_c (AAc rfl) (by show 256 < 2 ^ 64; decide))) (AAc rfl) k⟩
theorem AVh (T : Txt K mg) (cl : Cl K C) : Fn P w K mg base "do_none" 1 ["machine", "d", "n", "x"] (spH C 3 (D0 fun M => { M with en := 1 })) := by
  refine m_fn T.A0r AUp (fun _ _ _ _ _ _ => ln4 (fun _ _ _ _ => rfl)) rfl (fun f cdv A outer s H m B M us Q E hr hM h => ?_)
  obtain ⟨u1, u2, u3, rfl, k⟩ := h
  exact ⟨_, (@AAg _ _ _ (@ACs _ _ _ _ _ _ _ _ (pV 0 AO2 0 nms0 17 rfl rfl rfl) (@AAt _ _ _ _ T.c_NO_INSTRUCTION (lj AO2 1 rfl) (nj nms4 19 rfl).1) rfl)), ASh cl hM is_c (AAc rfl) k⟩
noncomputable def AN4 (a : Nat) (l : List Nat) : Prop := Sd12.place 4 a = false ∨ 65536 < a + 4 * l.length
instance (a : Nat) (l : List Nat) : Decidable (AN4 a l) := inferInstanceAs (Decidable (_ ∨ _))
theorem AI1 {a : Nat} {l : List Nat} (h : ¬ AN4 a l) : a + 4 * l.length ≤ 65536 := Nat.le_of_not_lt fun z => h (.inr z)
section
variable {σ : L2.St} {H : Hp} {tp tl : TE} {m t : Addr} {B : Ad} {M : Mx} {D : Ends} {u : TS} {p : Nat} {l : List Nat}
theorem ANc (cl : Cl K C) (hM : MAt C H m B M) (e0 : σ[0]? = some (some (.ref m))) (hp : Is tp σ H (vN p)) (e3 : σ[3]? = some (some (.ref t))) (hT : SqT K H t (l.map vN)) (hl : l ≠ []) (h0 : AN4 p l → ∀ H', Chg B m H H' → MAt C H' m B M.bad → D.rt .non H') (h1 : ¬ AN4 p l → u D σ H) :
    tSeq (tIfS (tB (tFn (AK8 K) (ABx tp (ABx (tVar 3) tNil)))) (tSeq (sFld K (tVar 0) (tC (.int ((2 : Nat) : Int))) "end") BEr) A55) u D σ H :=
  AQ2 (p := AN4 p l) (pu_b (APf (AAe hp (AAe (AAc e3) AAs)) fun Q q => ⟨p, t, l, rfl, hT, hl, q⟩)) (fun e => A7v cl hM is_c (AAc e0) (h0 e)) h1
theorem A1g (hM : MAt C H m B M) (e0 : σ[0]? = some (some (.ref m))) (hp : Is tp σ H (vN p)) (e3 : σ[3]? = some (some (.ref t))) (hT : SqT K H t (l.map vN)) (hl : ∀ r ∈ l, r < 16) (hle : p + 4 * l.length ≤ 65536) (q : ∀ H', Chg B m H H' → MAt C H' m B (M.putl p l l.length) → u D σ H') :
    tSeq (AOi (tFn (spH C 2 (A7r K)) (ABx (tVar 0) (ABx tp (ABx (tVar 3) tNil))))) u D σ H := ARj (AAe (AAc e0) (AAe hp (AAe (AAc e3) AAs))) ⟨m, B, M, _, rfl, rfl, hM, p, t, l, rfl, hT, hl, hle, q⟩
theorem A0u (hM : MAt C H m B M) (e0 : σ[0]? = some (some (.ref m))) (hp : Is tp σ H (vN p)) (e3 : σ[3]? = some (some (.ref t))) (hT : SqT K H t (l.map vN)) (hl : ∀ r ∈ l, r < 16) (hle : p + 4 * l.length ≤ 65536) (q : ∀ H', Chg B m H H' → MAt C H' m B (M.take p l l.length) → u D σ H') :
    tSeq (AOi (tFn (spH C 2 (A7m K)) (ABx (tVar 0) (ABx tp (ABx (tVar 3) tNil))))) u D σ H := ARj (AAe (AAc e0) (AAe hp (AAe (AAc e3) AAs))) ⟨m, B, M, _, rfl, rfl, hM, p, t, l, rfl, hT, hl, hle, q⟩
theorem ARc (e3 : σ[3]? = some (some (.ref t))) (hT : SqT K H t (l.map vN)) : Is (tOp (rNC (fun a _ => a < 2 ^ 64) fun a b => a * b) (tC (.int ((4 : Nat) : Int))) (tCB (fun xs H Q => ∃ p ys, xs = [V.ref p] ∧ (SqL K H p ys ∨ SqT K H p ys) ∧ Q (.int ys.length) H) (ABx (tVar 3) tNil))) σ H (vN (4 * l.length)) := AIw is_c (A6y (AAc e3) hT) (by decide)
end
noncomputable def LOk (l : List Nat) : Prop := l ≠ [] ∧ (∀ r ∈ l, r < 16) ∧ l.length ≤ 9
noncomputable def DL (K : Frag) (g : Mx → Nat → List Nat → Mx) (H : Hp) (M : Mx) (us : List V) (k : V → Mx → Prop) : Prop := ∃ (u1 : V) (n : Nat) (t : Addr) (l : List Nat), us = [u1, vN n, .ref t] ∧ n < 16 ∧ SqT K H t (l.map vN) ∧ LOk l ∧ M.en = 0 ∧ k .non (g M n l)
noncomputable def AXh (M : Mx) (l : List Nat) : Nat := (((rg M 13 : Nat) - ((4 * l.length : Nat) : Int)) % 4294967296).toNat
noncomputable def Mx.push (M : Mx) (_ : Nat) (l : List Nat) : Mx := if AN4 (AXh M l) l then M.bad else (M.putl (AXh M l) l l.length).set 13 (AXh M l)
theorem ATy (T : Txt K mg) (cl : Cl K C) : Fn P w K mg base "do_push" 3 ["machine", "d", "n", "registers"] (spH C 3 (DL K Mx.push)) := by
  have G_is_none_for_list := ACx (P := P) (w := w) (base := base) T
  have G_put_list := AMc (P := P) (w := w) (base := base) T cl
  refine m_fn T.A0o AO6 (fun _ _ _ _ _ _ => ln4 (fun _ _ _ _ => rfl)) rfl (fun f cdv A outer s H m B M us Q E hr hM h => ?_)
  obtain ⟨u1, n, t, l, rfl, hn, hT, hl, _, k⟩ := h
  refine ⟨_, (@AAf _ _ _ _ _ (@ABk _ _ 4 _ _ _ _ AO6.nd rfl (Or.inl (lj ABn 5 rfl)) (@AAl _ _ _ _ _ _ _ _ AG8 (@AAl _ _ _ _ _ _ _ _ AMt (@ACz _ _ _ _ _ _ _ AAz (@AAo _ _ _ _ _ (pV 0 ABn 0 nms0 17 rfl rfl rfl) rfl) (@AAt _ _ _ _ T.c_SP (lj ABn 1 rfl) (nj nms0 22 rfl).1) (fun _ _ => rfl)) (@AAl _ _ _ _ _ _ _ _ AOq (pn 4) (@AH2 _ _ _ _ _ _ _ _ _ AD8 (lj ABn 2 rfl) T.n_len PySem.boot_len (@AAa _ _ _ _ _ (pV 3 ABn 3 nms2 4 rfl rfl rfl) AAi rfl) AR4 (nj nms0 0 rfl).1 rfl rfl))) (@AAt _ _ _ _ T.c_WORD (lj ABn 4 rfl) (nj nms0 23 rfl).1)) rfl (.inl rfl)) (@AAf _ _ _ _ _ (@AEn _ _ _ _ _ _ _ _ (@AJ0 _ _ _ (@ABy _ _ _ _ _ _ _ _ _ _ G_is_none_for_list (hmo hr) (lj ABn 6 rfl) (@AAa _ _ _ _ _ (pV 4 ABn 5 nms0 16 rfl rfl rfl) (@AAa _ _ _ _ _ (pV 3 ABn 3 nms2 4 rfl rfl rfl) AAi rfl) rfl) (nj nms4 9 rfl).1 rfl rfl) (by intro _; rfl)) (@AAf _ _ _ _ _ (@ACs _ _ _ _ _ _ _ _ (pV 0 ABn 0 nms0 17 rfl rfl rfl) (@AAt _ _ _ _ T.c_NO_PLACE (lj ABn 7 rfl) (nj nms4 1 rfl).1) rfl) (@AAg _ _ _ APd)) ABf) (@AAf _ _ _ _ _ (@ACe _ _ _ _ (@ABy _ _ _ _ _ _ _ _ _ _ G_put_list (hmo hr) (lj ABn 8 rfl) (@AAa _ _ _ _ _ (pV 0 ABn 0 nms0 17 rfl rfl rfl) (@AAa _ _ _ _ _ (pV 4 ABn 5 nms0 16 rfl rfl rfl) (@AAa _ _ _ _ _ (pV 3 ABn 3 nms2 4 rfl rfl rfl) AAi rfl) rfl) rfl) (nj nms4 10 rfl).1 rfl rfl) rfl) (@AAg _ _ _ (@ACn _ _ _ _ _ _ (pV 4 ABn 5 nms0 16 rfl rfl rfl) (@ACk _ _ _ _ _ _ _ (@AAo _ _ _ _ _ (pV 0 ABn 0 nms0 17 rfl rfl rfl) rfl) (@AAt _ _ _ _ T.c_SP (lj ABn 1 rfl) (nj nms0 22 rfl).1) set_list (by intros; rfl)) rfl rfl rfl))))), ?_⟩
  unfold Mx.push at k
  refine AGj (v := vN (AXh M l)) (zW (A5b (BEu cl hM rfl) (ARc rfl hT))) ?_
  refine ANc (p := AXh M l) (l := l) cl hM rfl (AAc rfl) rfl hT hl.1 (fun e => ?_) (fun e => ?_)
  · rw [if_pos e] at k; exact k
  rw [if_neg e] at k
  refine A1g (p := AXh M l) (l := l) hM rfl (AAc rfl) rfl hT hl.2.1 (AI1 e) fun H1 c1 hM1 => ?_
  exact AAc (i := 4) rfl _ (AG3 (n := 13) cl hM1 (AAc rfl) is_c (by decide) (AH6 _) (k.next c1))
noncomputable def Mx.stm (M : Mx) (n : Nat) (l : List Nat) : Mx := if AN4 (rg M n) l then M.bad else (M.putl (rg M n) l l.length).set n (rg M n + 4 * l.length)
theorem AXq (T : Txt K mg) (cl : Cl K C) : Fn P w K mg base "do_stm" 3 ["machine", "d", "n", "registers"] (spH C 3 (DL K Mx.stm)) := by
  have G_is_none_for_list := ACx (P := P) (w := w) (base := base) T
  have G_put_list := AMc (P := P) (w := w) (base := base) T cl
  refine m_fn T.A5t ARq (fun _ _ _ _ _ _ => ln4 (fun _ _ _ _ => rfl)) rfl (fun f cdv A outer s H m B M us Q E hr hM h => ?_)
  obtain ⟨u1, n, t, l, rfl, hn, hT, hl, _, k⟩ := h
  refine ⟨_, (@AAf _ _ _ _ _ (@ABk _ _ 4 _ _ _ _ ARq.nd rfl (Or.inl (lj ACg 2 rfl)) (@ACz _ _ _ _ _ _ _ AAz (@AAo _ _ _ _ _ (pV 0 ACg 0 nms0 17 rfl rfl rfl) rfl) (pV 2 ACg 1 nms1 12 rfl rfl rfl) (fun _ _ => rfl)) rfl (.inl rfl)) (@AAf _ _ _ _ _ (@AEn _ _ _ _ _ _ _ _ (@AJ0 _ _ _ (@ABy _ _ _ _ _ _ _ _ _ _ G_is_none_for_list (hmo hr) (lj ACg 3 rfl) (@AAa _ _ _ _ _ (pV 4 ACg 2 nms0 16 rfl rfl rfl) (@AAa _ _ _ _ _ (pV 3 ACg 4 nms2 4 rfl rfl rfl) AAi rfl) rfl) (nj nms4 9 rfl).1 rfl rfl) (by intro _; rfl)) (@AAf _ _ _ _ _ (@ACs _ _ _ _ _ _ _ _ (pV 0 ACg 0 nms0 17 rfl rfl rfl) (@AAt _ _ _ _ T.c_NO_PLACE (lj ACg 5 rfl) (nj nms4 1 rfl).1) rfl) (@AAg _ _ _ APd)) ABf) (@AAf _ _ _ _ _ (@ACe _ _ _ _ (@ABy _ _ _ _ _ _ _ _ _ _ G_put_list (hmo hr) (lj ACg 6 rfl) (@AAa _ _ _ _ _ (pV 0 ACg 0 nms0 17 rfl rfl rfl) (@AAa _ _ _ _ _ (pV 4 ACg 2 nms0 16 rfl rfl rfl) (@AAa _ _ _ _ _ (pV 3 ACg 4 nms2 4 rfl rfl rfl) AAi rfl) rfl) rfl) (nj nms4 10 rfl).1 rfl rfl) rfl) (@AAg _ _ _ (@ACn _ _ _ _ _ _ (@AAl _ _ _ _ _ _ _ _ AHo (pV 4 ACg 2 nms0 16 rfl rfl rfl) (@AAl _ _ _ _ _ _ _ _ AOq (pn 4) (@AH2 _ _ _ _ _ _ _ _ _ AD8 (lj ACg 7 rfl) T.n_len PySem.boot_len (@AAa _ _ _ _ _ (pV 3 ACg 4 nms2 4 rfl rfl rfl) AAi rfl) AR4 (nj nms0 0 rfl).1 rfl rfl))) (@ACk _ _ _ _ _ _ _ (@AAo _ _ _ _ _ (pV 0 ACg 0 nms0 17 rfl rfl rfl) rfl) (pV 2 ACg 1 nms1 12 rfl rfl rfl) set_list (by intros; rfl)) rfl rfl rfl))))), ?_⟩
  unfold Mx.stm at k
  refine AGj (ALy cl hM rfl rfl hn) ?_
  refine ANc (p := rg M n) (l := l) cl hM rfl (AAc rfl) rfl hT hl.1 (fun e => ?_) (fun e => ?_)
  · rw [if_pos e] at k; exact k
  rw [if_neg e] at k
  have hle := AI1 e
  refine A1g (p := rg M n) (l := l) hM rfl (AAc rfl) rfl hT hl.2.1 hle fun H1 c1 hM1 => ?_
  exact is_n (x := rg M n) (y := 4 * l.length) (AAc rfl) (ARc rfl (AOm hM c1 hT)) _ (AG3 (n := n) cl hM1 (AAc rfl) (AAc rfl) hn (Nat.lt_of_le_of_lt hle (by decide)) (k.next c1))
noncomputable def Mx.ldm (M : Mx) (n : Nat) (l : List Nat) : Mx := if AN4 (rg M n) l then M.bad else if l.contains n = true then M.take (rg M n) l l.length else (M.take (rg M n) l l.length).set n (rg M n + 4 * l.length)
theorem A2t {σ : L2.St} {H : Hp} {ta tb : TE} {n : Nat} {t : Addr} {l : List Nat} (ha : Is ta σ H (vN n)) (hb : Is tb σ H (.ref t)) (hT : SqT K H t (l.map vN)) : Is (tOp (rIn K true) ta tb) σ H (.bl (!l.contains n)) := fun Q q => ha _ (hb _ ⟨t, _, rfl, .inr hT, rfl, AN7 l, by
  show Q (.bl (!inV (vN n) (l.map vN))) H
  rw [AQg]
  exact q⟩)
theorem AYq (T : Txt K mg) (cl : Cl K C) : Fn P w K mg base "do_ldm" 4 ["machine", "d", "n", "registers"] (spH C 3 (DL K Mx.ldm)) := by
  have G_is_none_for_list := ACx (P := P) (w := w) (base := base) T
  have G_take_list := ALg (P := P) (w := w) (base := base) T cl
  refine m_fn T.A5u ARh (fun _ _ _ _ _ _ => ln4 (fun _ _ _ _ => rfl)) rfl (fun f cdv A outer s H m B M us Q E hr hM h => ?_)
  obtain ⟨u1, n, t, l, rfl, hn, hT, hl, _, k⟩ := h
  refine ⟨_, (@AAf _ _ _ _ _ (@ABk _ _ 4 _ _ _ _ ARh.nd rfl (Or.inl (lj ABw 2 rfl)) (@ACz _ _ _ _ _ _ _ AAz (@AAo _ _ _ _ _ (pV 0 ABw 0 nms0 17 rfl rfl rfl) rfl) (pV 2 ABw 1 nms1 12 rfl rfl rfl) (fun _ _ => rfl)) rfl (.inl rfl)) (@AAf _ _ _ _ _ (@AEn _ _ _ _ _ _ _ _ (@AJ0 _ _ _ (@ABy _ _ _ _ _ _ _ _ _ _ G_is_none_for_list (hmo hr) (lj ABw 3 rfl) (@AAa _ _ _ _ _ (pV 4 ABw 2 nms0 16 rfl rfl rfl) (@AAa _ _ _ _ _ (pV 3 ABw 4 nms2 4 rfl rfl rfl) AAi rfl) rfl) (nj nms4 9 rfl).1 rfl rfl) (by intro _; rfl)) (@AAf _ _ _ _ _ (@ACs _ _ _ _ _ _ _ _ (pV 0 ABw 0 nms0 17 rfl rfl rfl) (@AAt _ _ _ _ T.c_NO_PLACE (lj ABw 5 rfl) (nj nms4 1 rfl).1) rfl) (@AAg _ _ _ APd)) ABf) (@AAf _ _ _ _ _ (@ACe _ _ _ _ (@ABy _ _ _ _ _ _ _ _ _ _ G_take_list (hmo hr) (lj ABw 6 rfl) (@AAa _ _ _ _ _ (pV 0 ABw 0 nms0 17 rfl rfl rfl) (@AAa _ _ _ _ _ (pV 4 ABw 2 nms0 16 rfl rfl rfl) (@AAa _ _ _ _ _ (pV 3 ABw 4 nms2 4 rfl rfl rfl) AAi rfl) rfl) rfl) (nj nms4 13 rfl).1 rfl rfl) rfl) (@AAg _ _ _ (@AEn _ _ _ _ _ _ _ _ (@AAy _ _ _ _ _ _ _ _ AQi (pV 2 ABw 1 nms1 12 rfl rfl rfl) (pV 3 ABw 4 nms2 4 rfl rfl rfl) rfl) (@AAg _ _ _ (@ACn _ _ _ _ _ _ (@AAl _ _ _ _ _ _ _ _ AHo (pV 4 ABw 2 nms0 16 rfl rfl rfl) (@AAl _ _ _ _ _ _ _ _ AOq (pn 4) (@AH2 _ _ _ _ _ _ _ _ _ AD8 (lj ABw 7 rfl) T.n_len PySem.boot_len (@AAa _ _ _ _ _ (pV 3 ABw 4 nms2 4 rfl rfl rfl) AAi rfl) AR4 (nj nms0 0 rfl).1 rfl rfl))) (@ACk _ _ _ _ _ _ _ (@AAo _ _ _ _ _ (pV 0 ABw 0 nms0 17 rfl rfl rfl) rfl) (pV 2 ABw 1 nms1 12 rfl rfl rfl) set_list (by intros; rfl)) rfl rfl rfl)) ABf))))), ?_⟩
  unfold Mx.ldm at k
  refine AGj (ALy cl hM rfl rfl hn) ?_
  refine ANc (p := rg M n) (l := l) cl hM rfl (AAc rfl) rfl hT hl.1 (fun e => ?_) (fun e => ?_)
  · rw [if_pos e] at k; exact k
  rw [if_neg e] at k
  have hle := AI1 e
  refine A0u (p := rg M n) (l := l) hM rfl (AAc rfl) rfl hT hl.2.1 hle fun H1 c1 hM1 => ?_
  have hT1 := AOm hM c1 hT
  have k := k.next c1
  refine ifs (b := !l.contains n) (by exact ABg (A2t (AAc rfl) (AAc rfl) hT1)) ?_
  cases e : l.contains n with
  | true =>
    rw [e, if_pos rfl] at k
    exact iteF (k H1 Chg.refl hM1)
  | false =>
    rw [e, if_neg Bool.false_ne_true] at k
    exact iteT (is_n (x := rg M n) (y := 4 * l.length) (AAc rfl) (ARc rfl hT1) _ (AG3 (n := n) cl hM1 (AAc rfl) (AAc rfl) hn (Nat.lt_of_le_of_lt hle (by decide)) k))
noncomputable def AZj (M : Mx) (l : List Nat) : Mx := if l.getLast? = some 15 then M.go (word M.mem (rg M 13 + 4 * l.length - 4)) else M
noncomputable def Mx.pop (M : Mx) (_ : Nat) (l : List Nat) : Mx := if AN4 (rg M 13) l then M.bad else if (AZj M l).en = 2 then AZj M l else ((AZj M l).take (rg M 13) l l.length).set 13 (rg M 13 + 4 * l.length)
theorem A9v {l : List Nat} (h : l ≠ []) : ∃ x, l.getLast? = some x ∧ atI (l.map vN) (-1) = some (vN x) := by
  refine ⟨l.getLast h, List.getLast?_eq_some_getLast h, ?_⟩
  have e : l.map vN = l.dropLast.map vN ++ [vN (l.getLast h)] := by
    rw [← List.map_singleton, ← List.map_append, List.dropLast_concat_getLast h]
  rw [e]
  exact A3d _ _
end
end Chip
namespace Chip
open PySem L2 LX
section
variable {P : Program} {w : World} {K : Frag} {mg : Str → Option Value} {base : Heap} {C : Addr}
noncomputable abbrev BEa : TE := tUn (rU fun i => .int (-i)) (tC (.int ((1 : Nat) : Int)))
theorem A64 {σ : L2.St} {H : Hp} {t : Addr} {l : List Nat} (e3 : σ[3]? = some (some (.ref t))) (hT : SqT K H t (l.map vN)) (hl : l ≠ []) : Pure (A50 (tOp rEq (tOp (rIxT K) (tVar 3) BEa) (tC (.int ((15 : Nat) : Int))))) σ H (decide (l.getLast? = some 15)) := by
  obtain ⟨x, h1, h2⟩ := A9v hl
  refine AZu (ABg (ADa (x := x) (y := 15) (fun Q q => AAc e3 _ ⟨1, rfl, t, _, _, _, rfl, rfl, hT, h2, q⟩) is_c)) ?_
  rw [h1]
  exact decide_eq_decide.mpr ⟨fun e => congrArg some e, fun e => Option.some.inj e⟩
theorem A7z {σ : L2.St} {H : Hp} {m t : Addr} {B : Ad} {M : Mx} {D : Ends} {u : TS} {l : List Nat} (cl : Cl K C) (hM : MAt C H m B M) (e0 : σ[0]? = some (some (.ref m))) (e3 : σ[3]? = some (some (.ref t))) (e5 : σ[5]? = some (some (vN (rg M 13 + 4 * l.length)))) (hT : SqT K H t (l.map vN)) (hl : l ≠ []) (hle : rg M 13 + 4 * l.length ≤ 65536)
    (q : ∀ H', Chg B m H H' → MAt C H' m B (AZj M l) → u D σ H') :
    tSeq (tIfS (A50 (tOp rEq (tOp (rIxT K) (tVar 3) BEa) (tC (.int ((15 : Nat) : Int))))) (AOi (tFn (spM C 1 R_go) (ABx (tVar 0) (ABx (tFn (AO1 K) (ABx (tFld K (tVar 0) "memory") (ABx (tOp (rI0 fun i j => .int (i - j)) (tVar 5) (tC (.int ((4 : Nat) : Int)))) tNil))) tNil)))) A55) u D σ H := by
  unfold AZj at q
  have h4 : 0 < l.length := List.length_pos_iff.mpr hl
  refine AQ2 (p := l.getLast? = some 15) (A64 e3 hT hl) (fun e => ?_) (fun e => ?_)
  · rw [if_pos e] at q
    refine ATn (AAe (AAc e0) (AAe (v := vN (word M.mem (rg M 13 + 4 * l.length - 4))) (APf (AAe (ADg cl hM cl.memory AEx (AAc e0)) (AAe (v := vN (rg M 13 + 4 * l.length - 4)) (AFw (A5b (AAc e5) is_c) ?_) AAs)) fun Q q => ⟨B.ma, M.mem, _, rfl, .of hM.mem, hM.byte, ?_, q⟩) AAs)) ⟨m, B, M, _, rfl, rfl, hM, _, rfl, q⟩
    · refine congrArg V.int ?_
      show ((rg M 13 + 4 * l.length : Nat) : Int) - ((4 : Nat) : Int) = _
      omega
    · rw [hM.size]
      omega
  · rw [if_neg e] at q
    exact q H Chg.refl hM
theorem AYm (T : Txt K mg) (cl : Cl K C) : Fn P w K mg base "do_pop" 4 ["machine", "d", "n", "registers"] (spH C 3 (DL K Mx.pop)) := by
  have G_is_none_for_list := ACx (P := P) (w := w) (base := base) T
  have G_take_list := ALg (P := P) (w := w) (base := base) T cl
  have G_go_to_marked := AGe (P := P) (w := w) (base := base) T cl
  have G_word_at := AKy (P := P) (w := w) (base := base) T
  refine m_fn T.A5s AOa (fun _ _ _ _ _ _ => ln4 (fun _ _ _ _ => rfl)) rfl (fun f cdv A outer s H m B M us Q E hr hM h => ?_)
  obtain ⟨u1, n, t, l, rfl, hn, hT, hl, _, k⟩ := h
  refine ⟨_, (@AAf _ _ _ _ _ (@ABk _ _ 4 _ _ _ _ AOa.nd rfl (Or.inl (lj ABb 2 rfl)) (@ACz _ _ _ _ _ _ _ AAz (@AAo _ _ _ _ _ (pV 0 ABb 0 nms0 17 rfl rfl rfl) rfl) (@AAt _ _ _ _ T.c_SP (lj ABb 1 rfl) (nj nms0 22 rfl).1) (fun _ _ => rfl)) rfl (.inl rfl)) (@AAf _ _ _ _ _ (@ABk _ _ 5 _ _ _ _ AOa.nd rfl (Or.inl (lj ABb 5 rfl)) (@AAl _ _ _ _ _ _ _ _ AHo (pV 4 ABb 2 nms0 16 rfl rfl rfl) (@AAl _ _ _ _ _ _ _ _ AOq (pn 4) (@AH2 _ _ _ _ _ _ _ _ _ AD8 (lj ABb 3 rfl) T.n_len PySem.boot_len (@AAa _ _ _ _ _ (pV 3 ABb 4 nms2 4 rfl rfl rfl) AAi rfl) AR4 (nj nms0 0 rfl).1 rfl rfl))) rfl (.inl rfl)) (@AAf _ _ _ _ _ (@AEn _ _ _ _ _ _ _ _ (@AJ0 _ _ _ (@ABy _ _ _ _ _ _ _ _ _ _ G_is_none_for_list (hmo hr) (lj ABb 6 rfl) (@AAa _ _ _ _ _ (pV 4 ABb 2 nms0 16 rfl rfl rfl) (@AAa _ _ _ _ _ (pV 3 ABb 4 nms2 4 rfl rfl rfl) AAi rfl) rfl) (nj nms4 9 rfl).1 rfl rfl) (by intro _; rfl)) (@AAf _ _ _ _ _ (@ACs _ _ _ _ _ _ _ _ (pV 0 ABb 0 nms0 17 rfl rfl rfl) (@AAt _ _ _ _ T.c_NO_PLACE (lj ABb 7 rfl) (nj nms4 1 rfl).1) rfl) (@AAg _ _ _ APd)) ABf) (@AAf _ _ _ _ _ (@AEn _ _ _ _ _ _ _ _ (@AAy _ _ _ _ _ _ _ _ AEl (@ACz _ _ _ _ _ _ _ AGn (pV 3 ABb 4 nms2 4 rfl rfl rfl) (@BCi _ _ _ _ _ _ A2m (pn 1)) (fun _ _ => rfl)) (@AAt _ _ _ _ T.c_PC (lj ABb 8 rfl) (nj nms0 9 rfl).1) rfl) (@AAg _ _ _ (@ACe _ _ _ _ (@ABy _ _ _ _ _ _ _ _ _ _ G_go_to_marked (hmo hr) (lj ABb 9 rfl) (@AAa _ _ _ _ _ (pV 0 ABb 0 nms0 17 rfl rfl rfl) (@AAa _ _ _ _ _ (@ABy _ _ _ _ _ _ _ _ _ _ G_word_at (hmo hr) (lj ABb 10 rfl) (@AAa _ _ _ _ _ (@AAo _ _ _ _ _ (pV 0 ABb 0 nms0 17 rfl rfl rfl) rfl) (@AAa _ _ _ _ _ (@AAl _ _ _ _ _ _ _ _ AMt (pV 5 ABb 5 nms4 11 rfl rfl rfl) (pn 4)) AAi rfl) rfl) (nj nms4 4 rfl).1 rfl rfl) AAi rfl) rfl) (nj nms4 12 rfl).1 rfl rfl) rfl)) ABf) (@AAf _ _ _ _ _ (@AEn _ _ _ _ _ _ _ _ (@AAy _ _ _ _ _ _ _ _ AEl (@AAo _ _ _ _ _ (pV 0 ABb 0 nms0 17 rfl rfl rfl) rfl) (@AAt _ _ _ _ T.c_NO_PLACE (lj ABb 7 rfl) (nj nms4 1 rfl).1) rfl) (@AAg _ _ _ APd) ABf) (@AAf _ _ _ _ _ (@ACe _ _ _ _ (@ABy _ _ _ _ _ _ _ _ _ _ G_take_list (hmo hr) (lj ABb 11 rfl) (@AAa _ _ _ _ _ (pV 0 ABb 0 nms0 17 rfl rfl rfl) (@AAa _ _ _ _ _ (pV 4 ABb 2 nms0 16 rfl rfl rfl) (@AAa _ _ _ _ _ (pV 3 ABb 4 nms2 4 rfl rfl rfl) AAi rfl) rfl) rfl) (nj nms4 13 rfl).1 rfl rfl) rfl) (@AAg _ _ _ (@ACn _ _ _ _ _ _ (pV 5 ABb 5 nms4 11 rfl rfl rfl) (@ACk _ _ _ _ _ _ _ (@AAo _ _ _ _ _ (pV 0 ABb 0 nms0 17 rfl rfl rfl) rfl) (@AAt _ _ _ _ T.c_SP (lj ABb 1 rfl) (nj nms0 22 rfl).1) set_list (by intros; rfl)) rfl rfl rfl)))))))), ?_⟩
  unfold Mx.pop at k
  refine AGj (BEu cl hM rfl) ?_
  refine AGj (is_n (x := rg M 13) (y := 4 * l.length) (AAc rfl) (ARc rfl hT)) ?_
  refine ANc (p := rg M 13) (l := l) cl hM rfl (AAc rfl) rfl hT hl.1 (fun e => ?_) (fun e => ?_)
  · rw [if_pos e] at k; exact k
  rw [if_neg e] at k
  have hle := AI1 e
  refine A7z (l := l) cl hM rfl rfl rfl hT hl.1 hle fun H1 c1 hM1 => ?_
  have hT1 := AOm hM c1 hT
  have k := k.next c1
  refine AQ2 (p := (AZj M l).en = 2) (ABg (ADa (ADg cl hM1 cl.end_ AP2 (AAc rfl)) is_c)) (fun e => ?_) (fun e => ?_)
  · rw [if_pos e] at k
    exact k H1 Chg.refl hM1
  rw [if_neg e] at k
  refine A0u (p := rg M 13) (l := l) hM1 rfl (AAc rfl) rfl hT1 hl.2.1 hle fun H2 c2 hM2 => ?_
  exact AAc (i := 5) rfl _ (AG3 (n := 13) cl hM2 (AAc rfl) is_c (by decide) (Nat.lt_of_le_of_lt hle (by decide)) (k.next c2))
noncomputable abbrev RD := Hp → Mx → List V → (V → Mx → Prop) → Prop
noncomputable def AKw : List Str := (["movs", "mvns", "ands", "tst", "bics", "orrs", "eors", "muls", "lsls", "lsrs", "asrs", "rors", "adds", "adcs", "cmn", "subs", "sbcs", "rsbs", "cmp", "add"] : List Str) ++ (["sub", "add_pc", "mov", "sxth", "sxtb", "uxth", "uxtb", "rev", "rev16", "revsh", "str", "strh", "strb", "ldr", "ldr_pc", "ldrh", "ldrsh", "ldrb", "ldrsb", "push"] : List Str) ++ (["pop", "stm", "ldm", "bx", "blx", "b", "b_if", "bl", "barrier", "nop", "bkpt", "svc", "none"] : List Str)
noncomputable def BDq : List Str := (["do_movs", "do_mvns", "do_ands", "do_tst", "do_bics", "do_orrs", "do_eors", "do_muls", "do_lsls", "do_lsrs", "do_asrs", "do_rors", "do_adds", "do_adcs", "do_cmn", "do_subs", "do_sbcs", "do_rsbs", "do_cmp", "do_add"] : List Str) ++ (["do_sub", "do_add_pc", "do_mov", "do_sxth", "do_sxtb", "do_uxth", "do_uxtb", "do_rev", "do_rev16", "do_revsh", "do_str", "do_strh", "do_strb", "do_ldr", "do_ldr_pc", "do_ldrh", "do_ldrsh", "do_ldrb", "do_ldrsb", "do_push"] : List Str) ++ (["do_pop", "do_stm", "do_ldm", "do_bx", "do_blx", "do_b", "do_b_if", "do_bl", "do_barrier", "do_nop", "do_bkpt", "do_svc", "do_none"] : List Str)
noncomputable def doRs (K : Frag) : List RD := [(D2 fun M d x => (M.nz x).set d x), (D2 fun M d x => (M.nz (Sd12.not32 x)).set d (Sd12.not32 x)), (D3 fun M d n x => (M.nz (rg M n &&& x)).set d (rg M n &&& x)), (D3 fun M _ n x => M.nz (rg M n &&& x)), (D3 fun M d n x => (M.nz (rg M n &&& Sd12.not32 x)).set d (rg M n &&& Sd12.not32 x)), (D3 fun M d n x => (M.nz (rg M n ||| x)).set d (rg M n ||| x)), (D3 fun M d n x => (M.nz (rg M n ^^^ x)).set d (rg M n ^^^ x)), (D3 fun M d n x => (M.nz (rg M n * x % 2 ^ 32)).set d (rg M n * x % 2 ^ 32)), (D3 fun M d n x => M.shf (Sd12.shift 0 (rg M n) (x % 256) M.c) d)] ++ [(D3 fun M d n x => M.shf (Sd12.shift 1 (rg M n) (x % 256) M.c) d), (D3 fun M d n x => M.shf (Sd12.shift 2 (rg M n) (x % 256) M.c) d), (D3 fun M d n x => M.shf (Sd12.shift 3 (rg M n) (x % 256) M.c) d), (D3 fun M d n x => M.sum (Sd12.add (rg M n) x 0) d), (D3 fun M d n x => M.sum (Sd12.add (rg M n) x (Sd12.toNat M.c)) d), (D3 fun M _ n x => M.nzcv (Sd12.add (rg M n) x 0)), (D3 fun M d n x => M.sum (Sd12.add (rg M n) (Sd12.not32 x) 1) d), (D3 fun M d n x => M.sum (Sd12.add (rg M n) (Sd12.not32 x) (Sd12.toNat M.c)) d), (D2 fun M d x => M.sum (Sd12.add 0 (Sd12.not32 x) 1) d)] ++ [(D3 fun M _ n x => M.nzcv (Sd12.add (rg M n) (Sd12.not32 x) 1)), (D3 fun M d n x => M.put d ((rg M n + x : Nat) : Int)), (D3 fun M d n x => M.put d ((rg M n : Int) - (x : Int))), A1o, (D2 fun M d x => M.put d (x : Int)), (D2 fun M d x => M.set d (ws (x % 65536) 32768)), (D2 fun M d x => M.set d (ws (x % 256) 128)), (D2 fun M d x => M.set d (x % 65536)), (D2 fun M d x => M.set d (x % 256))] ++ [(D2 fun M d x => M.set d (rev x)), (D2 fun M d x => M.set d (swap x)), (D2 fun M d x => M.set d (ws (swap (x % 65536)) 32768)), (D3 fun M d n x => M.st d (pl M n x) 4), (D3 fun M d n x => M.st d (pl M n x) 2), (D3 fun M d n x => M.st d (pl M n x) 1), (D3 fun M d n x => M.ld d (pl M n x) 4 (word M.mem (pl M n x))), A1b, (D3 fun M d n x => M.ld d (pl M n x) 2 (ws (half M.mem (pl M n x)) 0))] ++ [(D3 fun M d n x => M.ld d (pl M n x) 2 (ws (half M.mem (pl M n x)) 32768)), (D3 fun M d n x => M.ld d (pl M n x) 1 (ws (M.mem.getD (pl M n x) 0) 0)), (D3 fun M d n x => M.ld d (pl M n x) 1 (ws (M.mem.getD (pl M n x) 0) 128)), (DL K Mx.push), (DL K Mx.pop), (DL K Mx.stm), (DL K Mx.ldm), (D1 fun M x => M.go x), BEo] ++ [(DZ Mx.far), BEi, (DZ fun M z => (M.set 14 (rg M 15 + 1)).far z), (D0 fun M => { M with on := rg M 15 }), (D0 fun M => M), (D1 fun M x => { M with en := 3 + 256 * x }), (D1 fun M x => { M with en := 4 + 256 * x }), (D0 fun M => { M with en := 1 })]
noncomputable def idx (k : Str) : List Str → Option Nat
  | [] => none
  | x :: r => if k = x then some 0 else (idx k r).map (· + 1)
theorem AY0 {k : Str} {ks : List Str} : ∀ {vs : List V} {i : Nat} {v : V}, idx k ks = some i → vs[i]? = some v → PyProof.Rows.KTD.datumAt k (ks.zip vs) = some v := by
  induction ks with
  | nil => intro vs i v h; cases h
  | cons x r ih =>
    intro vs i v h hv
    cases vs with
    | nil => cases hv
    | cons y vs =>
      show (if decide (k = x) = true then some y else PyProof.Rows.KTD.datumAt k (r.zip vs)) = some v
      unfold idx at h
      by_cases c : k = x
      · rw [if_pos c] at h
        cases h
        rw [if_pos (decide_eq_true c)]
        exact hv
      · rw [if_neg c] at h
        obtain ⟨j, hj, rfl⟩ := Option.map_eq_some_iff.mp h
        rw [if_neg (by simpa using c)]
        exact ih hj hv
theorem A4n {a : Addr} {fs : List Addr} {ks ns : List Str} {k x : Str} {i : Nat} (hm : Paired (fun (f : Addr) (x : Str) => mg x = some (.ref f)) fs ns) (hi : idx k ks = some i) (hn : ns[i]? = some x) :
    ∃ f, mg x = some (.ref f) ∧ PyProof.Rows.KTD.datumAt k (ks.zip (fs.map V.ref)) = some (.ref f) := by
  obtain ⟨f, h1, h2⟩ := AIp hm hn
  exact ⟨f, h2, AY0 hi (AWq h1)⟩
theorem doers (T : Txt K mg) (cl : Cl K C) : Paired (fun (y : Str) (R : RD) => ∃ ps, Fn P w K mg base y 4 ps (spH C 3 R)) BDq (doRs K) :=
  (.cons ⟨_, (AV1 T cl).mono (by decide)⟩ (.cons ⟨_, (AWk T cl).mono (by decide)⟩ (.cons ⟨_, (AWw T cl).mono (by decide)⟩ (.cons ⟨_, (AXy T cl).mono (by decide)⟩ (.cons ⟨_, (AWh T cl).mono (by decide)⟩ (.cons ⟨_, (AV2 T cl).mono (by decide)⟩ (.cons ⟨_, (AWp T cl).mono (by decide)⟩ (.cons ⟨_, (AUb T cl).mono (by decide)⟩ (.cons ⟨_, (AT3 T cl).mono (by decide)⟩ (.cons ⟨_, (ATo T cl).mono (by decide)⟩ (.cons ⟨_, (AU2 T cl).mono (by decide)⟩ (.cons ⟨_, (AUk T cl).mono (by decide)⟩ (.cons ⟨_, (ATw T cl).mono (by decide)⟩ (.cons ⟨_, (AT8 T cl).mono (by decide)⟩ (.cons ⟨_, (AYz T cl).mono (by decide)⟩ (.cons ⟨_, (AV6 T cl).mono (by decide)⟩ (.cons ⟨_, (AV8 T cl).mono (by decide)⟩ (.cons ⟨_, (AVv T cl).mono (by decide)⟩ (.cons ⟨_, (AY8 T cl).mono (by decide)⟩ (.cons ⟨_, (AXv T cl).mono (by decide)⟩ (.cons ⟨_, (AXk T cl).mono (by decide)⟩ (.cons ⟨_, (AQh T cl).mono (by decide)⟩ (.cons ⟨_, (AXr T cl).mono (by decide)⟩ (.cons ⟨_, (AWj T cl).mono (by decide)⟩ (.cons ⟨_, (AVm T cl).mono (by decide)⟩ (.cons ⟨_, (AT7 T cl).mono (by decide)⟩ (.cons ⟨_, (AT4 T cl).mono (by decide)⟩ (.cons ⟨_, (AYh T cl).mono (by decide)⟩ (.cons ⟨_, (AR9 T cl).mono (by decide)⟩ (.cons ⟨_, (ASy T cl).mono (by decide)⟩ (.cons ⟨_, (AYn T cl).mono (by decide)⟩ (.cons ⟨_, (AW0 T cl).mono (by decide)⟩ (.cons ⟨_, (AUv T cl).mono (by decide)⟩ (.cons ⟨_, (AXi T cl).mono (by decide)⟩ (.cons ⟨_, (AQn T cl).mono (by decide)⟩ (.cons ⟨_, (AWd T cl).mono (by decide)⟩ (.cons ⟨_, (ASn T cl).mono (by decide)⟩ (.cons ⟨_, (AW4 T cl).mono (by decide)⟩ (.cons ⟨_, (ASm T cl).mono (by decide)⟩ (.cons ⟨_, (ATy T cl).mono (by decide)⟩ (.cons ⟨_, (AYm T cl).mono (by decide)⟩ (.cons ⟨_, (AXq T cl).mono (by decide)⟩ (.cons ⟨_, (AYq T cl).mono (by decide)⟩ (.cons ⟨_, (A2u T cl).mono (by decide)⟩ (.cons ⟨_, (AZk T cl).mono (by decide)⟩ (.cons ⟨_, (A84 T cl).mono (by decide)⟩ (.cons ⟨_, (ATf T cl).mono (by decide)⟩ (.cons ⟨_, (A4o T cl).mono (by decide)⟩ (.cons ⟨_, (AO4 T cl).mono (by decide)⟩ (.cons ⟨_, (AXm T cl).mono (by decide)⟩ (.cons ⟨_, (AWo T cl).mono (by decide)⟩ (.cons ⟨_, (AZe T cl).mono (by decide)⟩ (.cons ⟨_, (AVh T cl).mono (by decide)⟩ .nil)))))))))))))))))))))))))))))))))))))))))))))))))))))
noncomputable def AY3 (M : Mx) (b : Ab) (iv sec : V) : Prop := (b.m = .non ∧ sec = iv) ∨ ∃ r, r < 16 ∧ b.m = vN r ∧ sec = vN (rg M r)
noncomputable def BEg (K : Frag) (H : Hp) (M : Mx) (us : List V) (k : V → Mx → Prop) : Prop := ∃ (p : Addr) (b : Ab) (iv : V) (po : Addr) (sec : V) (j : Nat) (R : RD), us = [.ref p] ∧ SqT K H p [.str b.name, b.d, b.n, b.m, iv, .ref po] ∧ AY3 M b iv sec ∧ idx b.name AKw = some j ∧ (doRs K)[j]? = some R ∧ R H M [b.d, b.n, sec] fun _ M' => k .non M'
theorem BCr {σ : L2.St} {H : Hp} {m p po : Addr} {B : Ad} {M : Mx} {b : Ab} {iv sec : V} (cl : Cl K C) (hM : MAt C H m B M) (e0 : σ[0]? = some (some (.ref m))) (e1 : σ[1]? = some (some (.ref p))) (e2 : σ[2]? = some (some b.m)) (hI : SqT K H p [.str b.name, b.d, b.n, b.m, iv, .ref po]) (hs : AY3 M b iv sec) :
    Is (tIf (tB (tIsN (tVar 2))) (tOp (rIxT K) (tVar 1) (tC (.int ((4 : Nat) : Int)))) (tOp (rIxL K) (tFld K (tVar 0) "regs") (tVar 2))) σ H sec := by
  rcases hs with ⟨h1, rfl⟩ | ⟨r, hr, h1, rfl⟩
  · rw [h1] at e2
    refine BBx (b := true) (pu_b (fun Q q => AAc e2 _ (by rw [decide_eq_true rfl]; exact q))) (fun _ => AQw (AAc e1) is_c hI rfl) (fun z => by cases z)
  · rw [h1] at e2
    refine BBx (b := false) (pu_b (fun Q q => AAc e2 _ (by rw [decide_eq_false (fun z => by cases z)]; exact q))) (fun z => by cases z) (fun _ => ASx cl hM (AAc e0) (AAc e2) hr)
theorem AJ2 (T : Txt K mg) (cl : Cl K C) : Fn P w K mg base "do_instruction" 5 ["machine", "instruction"] (spH C 1 (BEg K)) := by
  refine m_fn T.ALv AEu (fun _ _ _ _ _ _ => ln2 (fun _ _ => rfl)) rfl (fun f cdv A outer s H m B M us Q E hr hM h => ?_)
  obtain ⟨p, b, iv, po, sec, j, R, rfl, hI, hs, hj, hR, k⟩ := h
  obtain ⟨y, hy, ps, F⟩ := AIp (doers (P := P) (w := w) (base := base) T cl) hR
  refine ⟨_, (@AAf _ _ _ _ _ (@ABk _ _ 2 _ _ _ _ AEu.nd rfl (Or.inl (lj AAu 1 rfl)) (@ACz _ _ _ _ _ _ _ AGn (pV 1 AAu 0 nms4 20 rfl rfl rfl) (pn 3) (fun _ _ => rfl)) rfl (.inl rfl)) (@AAf _ _ _ _ _ (@ABk _ _ 3 _ _ _ _ AEu.nd rfl (Or.inl (lj AAu 3 rfl)) (@AGo _ _ _ _ _ _ _ _ (@A9y _ _ _ _ _ _ (@BCk _ _ _ _ _ (pV 2 AAu 1 nms1 9 rfl rfl rfl)) rfl) (@ACz _ _ _ _ _ _ _ AGn (pV 1 AAu 0 nms4 20 rfl rfl rfl) (pn 4) (fun _ _ => rfl)) (@ACz _ _ _ _ _ _ _ AAz (@AAo _ _ _ _ _ (pV 0 AAu 2 nms0 17 rfl rfl rfl) rfl) (pV 2 AAu 1 nms1 9 rfl rfl rfl) (fun _ _ => rfl))) rfl (.inl rfl)) (@AAg _ _ _ (@ACe _ _ _ _ (@A2v _ 4 _ _ _ _ _ _ (@BCn _ _ _ _ _ _ (@ABq _ _ _ _ T.c_DOERS (lj AAu 4 rfl) (nj nms4 21 rfl).1) (@ACz _ _ _ _ _ _ _ AGn (pV 1 AAu 0 nms4 20 rfl rfl rfl) (pn 0) (fun _ _ => rfl)) (fun _ _ => rfl)) (hmo hr) (@AAa _ _ _ _ _ (pV 0 AAu 2 nms0 17 rfl rfl rfl) (@AAa _ _ _ _ _ (@ACz _ _ _ _ _ _ _ AGn (pV 1 AAu 0 nms4 20 rfl rfl rfl) (pn 1) (fun _ _ => rfl)) (@AAa _ _ _ _ _ (@ACz _ _ _ _ _ _ _ AGn (pV 1 AAu 0 nms4 20 rfl rfl rfl) (pn 2) (fun _ _ => rfl)) (@AAa _ _ _ _ _ (pV 3 AAu 3 nms2 16 rfl rfl rfl) AAi rfl) rfl) rfl) rfl) rfl rfl rfl) rfl)))), ?_⟩
  refine AGj (AQw (j := 3) (AAc rfl) is_c hI rfl) ?_
  refine AGj (BCr cl hM rfl rfl rfl hI hs) ?_
  refine fun q hq => AQw (j := 0) (AAc rfl) is_c hI rfl _ ?_
  obtain ⟨fs, hk, hm⟩ := hq
  obtain ⟨g, hmg, hd⟩ := A4n (a := q) (ks := AKw) hm hj hy
  refine ⟨q, _, _, _, rfl, rfl, hk, hd, g, _, rfl, ⟨_, F.can hmg⟩, ?_⟩
  refine AAe (AAc rfl) (AAe (AQw (j := 1) (AAc rfl) is_c hI rfl) (AAe (AQw (j := 2) (AAc rfl) is_c hI rfl) (AAe (AAc rfl) AAs))) _ ?_
  exact ⟨m, B, M, _, rfl, rfl, hM, k⟩
end
end Chip
namespace Chip
open PySem L2 LX
noncomputable def stOf (M : Mx) (p : Nat) : Sd12.St := ⟨M.r.set 15 p, M.n, M.z, M.c, M.v, fun a => M.mem.getD a 0⟩
structure Good (M : Mx) (pc : Nat) : Prop where
  r15 : rg M 15 = pc + 4
  on : M.on = pc + 2
  en : M.en = 0
  ev : pc % 2 = 0
  pc : pc + 2 ≤ 65536
  len : M.r.length = 16
  word : ∀ x ∈ M.r, x < 2 ^ 32
  byte : ∀ x ∈ M.mem, x < 256
  size : M.mem.length = 65536
noncomputable def Res (M M' : Mx) (pc : Nat) : Sd12.Out → Prop
  | .on s => M'.en = 0 ∧ s = stOf M' M'.on ∧ M'.on < 2 ^ 32 ∧ M'.on % 2 = 0 ∧ M'.m0 = M.m0
  | .fault => M'.en = 2 ∧ stOf M' pc = stOf M pc ∧ M'.m0 = M.m0
  | .called k s => k < 256 ∧ M'.en = 4 + 256 * k ∧ s = stOf M' M'.on ∧ M'.on < 2 ^ 32 ∧ M'.on % 2 = 0 ∧ M'.m0 = M.m0
  | .stopped k => k < 256 ∧ M'.en = 3 + 256 * k ∧ stOf M' pc = stOf M pc ∧ M'.m0 = M.m0
theorem AHq {l : List Nat} {i x : Nat} (h : i < l.length) : (l.set i x).getD i 0 = x := by
  rw [List.getD_eq_getElem?_getD, List.getElem?_set_self h]
  rfl
noncomputable def nx (s : Sd12.St) : Sd12.St := { s with r := s.r.set 15 ((s.pc + 2) % Sd12.W) }
section
variable {M : Mx} {pc : Nat}
theorem Good.s_pc (g : Good M pc) : (stOf M pc).pc = pc := AHq (by rw [g.len]; decide)
theorem Good.get (g : Good M pc) (i : Nat) : (stOf M pc).get i = rg M i := by
  show (if i = 15 then ((stOf M pc).pc + 4) % Sd12.W else (M.r.set 15 pc).getD i 0) = rg M i
  by_cases e : i = 15
  · rw [if_pos e, g.s_pc, e, g.r15]
    have := g.pc
    exact Nat.mod_eq_of_lt (by show pc + 4 < 2 ^ 32; omega)
  · rw [if_neg e]
    exact AGk fun z => e z.symm
theorem Good.lt (g : Good M pc) (i : Nat) : rg M i < 2 ^ 32 := by
  show M.r.getD i 0 < _
  rw [List.getD_eq_getElem?_getD]
  cases e : M.r[i]? with
  | none => show 0 < 2 ^ 32; decide
  | some v => exact g.word v (List.mem_of_getElem? e)
theorem Good.rd (g : Good M pc) {i : Nat} (h : i ≠ 15) : (stOf M pc).r.getD i 0 = rg M i := AGk fun z => h z.symm
theorem BAc (p q : Nat) : ({ stOf M p with r := (stOf M p).r.set 15 q } : Sd12.St) = stOf M q := by
  show ({ stOf M p with r := (M.r.set 15 p).set 15 q } : Sd12.St) = _
  rw [List.set_set]
  rfl
theorem Good.nx (g : Good M pc) : nx (stOf M pc) = stOf M (pc + 2) := by
  unfold Chip.nx
  rw [g.s_pc, BAc, Nat.mod_eq_of_lt]
  have := g.pc
  show pc + 2 < 2 ^ 32
  omega
theorem Good.on_lt (g : Good M pc) : M.on < 2 ^ 32 := by
  have := g.pc
  rw [g.on]
  omega
theorem APc {d x p : Nat} (h13 : d ≠ 13) (h15 : d ≠ 15) : (stOf M p).set d x = stOf (M.set d x) p := by
  show ({ stOf M p with r := (M.r.set 15 p).set d (if d = 13 then x / 4 * 4 else if d = 15 then x / 2 * 2 else x) } : Sd12.St) = _
  rw [if_neg h13, if_neg h15, List.set_comm _ _ h15.symm]
  rfl
theorem BAd {x p : Nat} : (stOf M p).set 13 x = stOf (M.set 13 (x / 4 * 4)) p := by
  show ({ stOf M p with r := (M.r.set 15 p).set 13 (x / 4 * 4) } : Sd12.St) = _
  rw [List.set_comm _ _ (by decide : (15 : Nat) ≠ 13)]
  rfl
theorem Good.on_ev (g : Good M pc) : M.on % 2 = 0 := by
  have := g.ev
  rw [g.on]
  omega
theorem Good.on_ (g : Good M pc) {M' : Mx} {s : Sd12.St} (e1 : M'.en = M.en) (e2 : M'.on = M.on) (e3 : M'.m0 = M.m0) (h : s = stOf M' (pc + 2)) : Res M M' pc (.on s) := ⟨e1.trans g.en, by rw [e2, g.on]; exact h, by rw [e2]; exact g.on_lt, by rw [e2]; exact g.on_ev, e3⟩
variable {d x : Nat}
theorem Good.o_set (g : Good M pc) (h13 : d ≠ 13) (h15 : d ≠ 15) : Res M (M.set d x) pc (.on ((stOf M (pc + 2)).set d x)) := g.on_ rfl rfl rfl (APc h13 h15)
theorem Good.o_res (g : Good M pc) (h13 : d ≠ 13) (h15 : d ≠ 15) : Res M ((M.nz x).set d x) pc (.on (((stOf M (pc + 2)).set d x).nz x)) := g.on_ rfl rfl rfl (by rw [APc h13 h15]; rfl)
theorem Good.o_nz (g : Good M pc) : Res M (M.nz x) pc (.on ((stOf M (pc + 2)).nz x)) := g.on_ rfl rfl rfl rfl
theorem Good.o_shf (g : Good M pc) {y : Nat × Bool} (h13 : d ≠ 13) (h15 : d ≠ 15) : Res M (M.shf y d) pc (.on { ((stOf M (pc + 2)).set d y.1).nz y.1 with c := y.2 }) := g.on_ rfl rfl rfl (by rw [APc h13 h15]; rfl)
theorem Good.o_sum (g : Good M pc) {y : Nat × Bool × Bool} (h13 : d ≠ 13) (h15 : d ≠ 15) : Res M (M.sum y d) pc (.on (((stOf M (pc + 2)).set d y.1).nzcv y)) := g.on_ rfl rfl rfl (by rw [APc h13 h15]; rfl)
theorem Good.o_nzcv (g : Good M pc) {y : Nat × Bool × Bool} : Res M (M.nzcv y) pc (.on ((stOf M (pc + 2)).nzcv y)) := g.on_ rfl rfl rfl rfl
theorem Good.o_bad (g : Good M pc) : Res M M.bad pc .fault := ⟨rfl, rfl, rfl⟩
theorem Good.o_go (g : Good M pc) {q : Nat} (hq : q < 2 ^ 32) (he : q % 2 = 0) : Res M { M with on := q } pc (.on (stOf M q)) := ⟨g.en, rfl, hq, he, rfl⟩
end
theorem A12 (M : Mx) (a x b : Nat) (ha : a < M.mem.length) : (M.byte a x).mem.getD b 0 = if b = a then x else M.mem.getD b 0 := by
  show (M.mem.set a x).getD b 0 = _
  by_cases e : b = a
  · rw [if_pos e, e, AHq ha]
  · rw [if_neg e, AGk fun z => e z.symm]
theorem ARg (M : Mx) (p x n : Nat) : (M.store p x n).mem.length = M.mem.length := by
  induction n with
  | zero => rfl
  | succ n ih =>
    show ((M.store p x n).mem.set _ _).length = _
    rw [List.length_set, ih]
theorem AZh (M : Mx) (p x : Nat) : ∀ n, p + n ≤ M.mem.length → ∀ b, (M.store p x n).mem.getD b 0 = if p ≤ b ∧ b < p + n then x / 256 ^ (b - p) % 256 else M.mem.getD b 0 := by
  intro n
  induction n with
  | zero => intro _ b; rw [if_neg (by omega)]; rfl
  | succ n ih =>
    intro h b
    show ((M.store p x n).byte (p + n) (x / 256 ^ n % 256)).mem.getD b 0 = _
    rw [A12 _ _ _ _ (by rw [ARg]; omega), ih (by omega)]
    by_cases e : b = p + n
    · rw [if_pos e, if_pos (by omega), e, Nat.add_sub_cancel_left]
    · rw [if_neg e]
      by_cases c : p ≤ b ∧ b < p + n
      · rw [if_pos c, if_pos (by omega)]
      · rw [if_neg c, if_neg (by omega)]
theorem ALa (M : Mx) (p x n : Nat) : (M.store p x n).r = M.r ∧ (M.store p x n).n = M.n ∧ (M.store p x n).z = M.z ∧ (M.store p x n).c = M.c ∧ (M.store p x n).v = M.v ∧ (M.store p x n).en = M.en ∧ (M.store p x n).on = M.on ∧ (M.store p x n).m0 = M.m0 := by
  induction n with
  | zero => exact ⟨rfl, rfl, rfl, rfl, rfl, rfl, rfl, rfl⟩
  | succ n ih => exact ih
theorem AUf {M : Mx} {q p x n : Nat} (h : p + n ≤ M.mem.length) : (stOf M q).store n p x = stOf (M.store p x n) q := by
  obtain ⟨h1, h2, h3, h4, h5, _⟩ := ALa M p x n
  unfold stOf
  rw [h1, h2, h3, h4, h5]
  exact congrArg (fun f => (⟨M.r.set 15 q, M.n, M.z, M.c, M.v, f⟩ : Sd12.St)) (funext fun b => (AZh M p x n h b).symm)
theorem ld4 (m : Nat → Nat) (p : Nat) : (List.range 4).foldl (fun x i => x + m (p + i) * 256 ^ i) 0 = m p + 256 * m (p + 1) + 65536 * (m (p + 2) + 256 * m (p + 2 + 1)) := by
  have e : List.range 4 = [0, 1, 2, 3] := by decide
  rw [e, List.foldl_cons, List.foldl_cons, List.foldl_cons, List.foldl_cons, List.foldl_nil]
  have p2 : 256 ^ 2 = 65536 := by decide
  have p3 : 256 ^ 3 = 65536 * 256 := by decide
  rw [p2, p3, Nat.pow_zero, Nat.pow_one, Nat.mul_one, Nat.zero_add, Nat.add_zero, Nat.mul_comm (m (p + 1)), Nat.mul_comm (m (p + 2)), Nat.mul_add, Nat.mul_comm (m (p + 3)), Nat.add_assoc, Nat.mul_assoc]
theorem ld2 (m : Nat → Nat) (p : Nat) : (List.range 2).foldl (fun x i => x + m (p + i) * 256 ^ i) 0 = m p + 256 * m (p + 1) := by
  have e : List.range 2 = [0, 1] := by decide
  rw [e, List.foldl_cons, List.foldl_cons, List.foldl_nil, Nat.add_zero, Nat.pow_zero, Nat.mul_one, Nat.zero_add, Nat.pow_one, Nat.mul_comm]
theorem A77 (M : Mx) (q p : Nat) : (stOf M q).load 4 p = word M.mem p := ld4 (fun a => M.mem.getD a 0) p
theorem BAg (M : Mx) (q p : Nat) : (stOf M q).load 2 p = half M.mem p := ld2 (fun a => M.mem.getD a 0) p
theorem BD8 (M : Mx) (q p : Nat) : (stOf M q).load 1 p = M.mem.getD p 0 := by
  unfold Sd12.St.load
  have e : List.range 1 = [0] := by decide
  rw [e, List.foldl_cons, List.foldl_nil, Nat.add_zero, Nat.pow_zero, Nat.mul_one, Nat.zero_add]
  rfl
theorem ws_0 {v : Nat} (h : v < 2 ^ 32) : ws v 0 = v := by
  unfold ws
  rw [Nat.and_zero]
  omega
theorem A8u {v j : Nat} (hv : v < 2 ^ (j + 1)) (hj : j + 1 ≤ 32) : ws v (2 ^ j) = Sd12.signed (j + 1) v := by
  unfold ws Sd12.signed Sd12.bit
  rw [AMf]
  have e : j + 1 - 1 = j := rfl
  have hp : 2 ^ (j + 1) ≤ 2 ^ 32 := Nat.pow_le_pow_right (by decide) hj
  rw [e]
  rw [Nat.pow_succ] at hv hp ⊢
  generalize 2 ^ j = q at hv hp ⊢
  rcases Nat.mod_two_eq_zero_or_one (v / q) with z | z
  · rw [z, if_neg (by decide)]
    omega
  · rw [z, if_pos (by decide)]
    have hq : q ≤ v := by
      refine Nat.le_of_not_lt fun c => ?_
      rw [Nat.div_eq_of_lt c] at z
      cases z
    show _ = v + 4294967296 - q * 2
    omega
end Chip
namespace Chip
open PySem L2 LX
open Sd12 (add not32 shift)
theorem AHf : ∀ j, j < 53 → idx (AKw.getD j "") AKw = some j := by decide +kernel
noncomputable def Lk (K : Frag) (H : Hp) (M : Mx) (pc : Nat) (b : Ab) (iv : V) (o : Sd12.Out) : Prop := ∃ (sec : V) (j : Nat) (R : RD), AY3 M b iv sec ∧ idx b.name AKw = some j ∧ (doRs K)[j]? = some R ∧ ∀ k : Mx → Prop, (∀ M', Res M M' pc o → k M') → R H M [b.d, b.n, sec] fun _ M' => k M'
section
variable {K : Frag} {H : Hp} {M : Mx} {pc j : Nat} {b : Ab} {iv vd vn vm : V} {o : Sd12.Out} {x : Str} {bi : Int ⊕ List Nat} {ops : List Str} {d n : Nat} {y r : Nat}
theorem AHv (hr : r < 16) : AY3 M ⟨x, vd, vn, vN r, bi, ops⟩ iv (vN (rg M r)) := .inr ⟨r, hr, rfl, rfl⟩
theorem ALw : AY3 M ⟨x, vd, vn, .non, bi, ops⟩ iv iv := .inl ⟨rfl, rfl⟩
theorem lk3 {f : Mx → Nat → Nat → Nat → Mx} (j : Nat) (hj : j < 53) (hR : (doRs K)[j]? = some (D3 f)) (e : x = AKw.getD j "") (hs : AY3 M ⟨x, vN d, vN n, vm, bi, ops⟩ iv (vN y)) (hd : d < 16) (hn : n < 16) (hy : y < 2 ^ 32) (h : Res M (f M d n y) pc o) : Lk K H M pc ⟨x, vN d, vN n, vm, bi, ops⟩ iv o :=
  ⟨_, j, _, hs, e ▸ AHf j hj, hR, fun k q => ⟨d, n, y, rfl, hd, hn, hy, q _ h⟩⟩
theorem lk2 {f : Mx → Nat → Nat → Mx} (j : Nat) (hj : j < 53) (hR : (doRs K)[j]? = some (D2 f)) (e : x = AKw.getD j "") (hs : AY3 M ⟨x, vN d, vn, vm, bi, ops⟩ iv (vN y)) (hd : d < 16) (hy : y < 2 ^ 32) (h : Res M (f M d y) pc o) : Lk K H M pc ⟨x, vN d, vn, vm, bi, ops⟩ iv o :=
  ⟨_, j, _, hs, e ▸ AHf j hj, hR, fun k q => ⟨d, vn, y, rfl, hd, hy, q _ h⟩⟩
theorem lk1 {f : Mx → Nat → Mx} (j : Nat) (hj : j < 53) (hR : (doRs K)[j]? = some (D1 f)) (e : x = AKw.getD j "") (hs : AY3 M ⟨x, vd, vn, vm, bi, ops⟩ iv (vN y)) (hy : y < 2 ^ 32) (h : Res M (f M y) pc o) : Lk K H M pc ⟨x, vd, vn, vm, bi, ops⟩ iv o :=
  ⟨_, j, _, hs, e ▸ AHf j hj, hR, fun k q => ⟨vd, vn, y, rfl, hy, q _ h⟩⟩
theorem lk0 {f : Mx → Mx} (j : Nat) (hj : j < 53) (hR : (doRs K)[j]? = some (D0 f)) (e : x = AKw.getD j "") (h : Res M (f M) pc o) : Lk K H M pc ⟨x, vd, vn, .non, bi, ops⟩ iv o :=
  ⟨_, j, _, ALw, e ▸ AHf j hj, hR, fun k q => ⟨vd, vn, iv, rfl, q _ h⟩⟩
theorem lkZ {f : Mx → Int → Mx} {z : Int} (j : Nat) (hj : j < 53) (hR : (doRs K)[j]? = some (DZ f)) (e : x = AKw.getD j "") (hl : rg M 15 + 1 < 2 ^ 32) (h : Res M (f M z) pc o) : Lk K H M pc ⟨x, vd, vn, .non, bi, ops⟩ (.int z) o :=
  ⟨_, j, _, ALw, e ▸ AHf j hj, hR, fun k q => ⟨vd, vn, z, rfl, hl, q _ h⟩⟩
end
section
variable {K : Frag} {H : Hp} {M : Mx} {pc : Nat}
theorem lt16 {r : Nat} (h : r < 8) : r < 16 := Nat.lt_trans h (by decide)
theorem n13 {r : Nat} (h : r < 8) : r ≠ 13 := fun e => absurd (e ▸ h) (by decide)
theorem n15 {r : Nat} (h : r < 8) : r ≠ 15 := fun e => absurd (e ▸ h) (by decide)
theorem kw {k : Nat} (h : k < 256) : k < 2 ^ 32 := Nat.lt_trans h (by decide)
theorem A61 (s : Sd12.St) (k rd rm n : Nat) : Sd12.step s (.shiftImm k rd rm n) = .on { ((nx s).set rd (shift k (s.get rm) (if n = 0 ∧ k ≠ 0 then 32 else n) s.c).1).nz (shift k (s.get rm) (if n = 0 ∧ k ≠ 0 then 32 else n) s.c).1 with c := (shift k (s.get rm) (if n = 0 ∧ k ≠ 0 then 32 else n) s.c).2 } := rfl
theorem A9l (g : Good M pc) {k rd rm n : Nat} (hw : Wf (.shiftImm k rd rm n)) : Lk K H M pc (abI (.shiftImm k rd rm n)) (.int ((if k = 0 ∧ n = 0 then 0 else if n = 0 then 32 else n : Nat) : Int)) (Sd12.step (stOf M pc) (.shiftImm k rd rm n)) := by
  obtain ⟨h1, h2, h3, h4⟩ := hw
  rw [A61, g.get, g.nx]
  show Lk K H M pc (if k = 0 ∧ n = 0 then _ else _) _ _
  by_cases c : k = 0 ∧ n = 0
  · obtain ⟨rfl, rfl⟩ := c
    rw [if_pos ⟨rfl, rfl⟩, show (if (0 : Nat) = 0 ∧ (0 : Nat) ≠ 0 then 32 else 0) = 0 from rfl, A34]
    exact lk2 0 (by decide) rfl rfl (AHv (lt16 h3)) (lt16 h2) (g.lt rm) (g.on_ rfl rfl rfl (by rw [APc (n13 h2) (n15 h2)]; rfl))
  · rw [if_neg c, if_neg c]
    have e : (if n = 0 ∧ k ≠ 0 then 32 else n) = (if n = 0 then 32 else n) := by
      by_cases z : n = 0
      · rw [if_pos z, if_pos ⟨z, fun q => c ⟨q, z⟩⟩]
      · rw [if_neg z, if_neg fun q => z q.1]
    rw [e]
    have hl : (if n = 0 then 32 else n) < 256 := by split <;> omega
    generalize (if n = 0 then 32 else n) = q at hl
    have em : q % 256 = q := Nat.mod_eq_of_lt hl
    have z : k = 0 ∨ k = 1 ∨ k = 2 := by omega
    have go : ∀ j, shift j (rg M rm) q (stOf M pc).c = shift j (rg M rm) (q % 256) M.c := fun j => by rw [em]; rfl
    rcases z with rfl | rfl | rfl
    · rw [go]; exact lk3 8 (by decide) rfl rfl ALw (lt16 h2) (lt16 h3) (kw hl) (g.o_shf (n13 h2) (n15 h2))
    · rw [go]; exact lk3 9 (by decide) rfl rfl ALw (lt16 h2) (lt16 h3) (kw hl) (g.o_shf (n13 h2) (n15 h2))
    · rw [go]; exact lk3 10 (by decide) rfl rfl ALw (lt16 h2) (lt16 h3) (kw hl) (g.o_shf (n13 h2) (n15 h2))
theorem A4d (s : Sd12.St) (sub : Bool) (rd rn rm : Nat) : Sd12.step s (.addReg sub rd rn rm) = .on (((nx s).set rd (if sub = true then add (s.get rn) (not32 (s.get rm)) 1 else add (s.get rn) (s.get rm) 0).1).nzcv (if sub = true then add (s.get rn) (not32 (s.get rm)) 1 else add (s.get rn) (s.get rm) 0)) := rfl
theorem A3y (g : Good M pc) {sub : Bool} {rd rn rm : Nat} (hw : Wf (.addReg sub rd rn rm)) {iv : V} : Lk K H M pc (abI (.addReg sub rd rn rm)) iv (Sd12.step (stOf M pc) (.addReg sub rd rn rm)) := by
  obtain ⟨h1, h2, h3⟩ := hw
  rw [A4d, g.get, g.get, g.nx]
  cases sub
  · exact lk3 12 (by decide) rfl rfl (AHv (lt16 h3)) (lt16 h1) (lt16 h2) (g.lt rm) (g.o_sum (n13 h1) (n15 h1))
  · exact lk3 15 (by decide) rfl rfl (AHv (lt16 h3)) (lt16 h1) (lt16 h2) (g.lt rm) (g.o_sum (n13 h1) (n15 h1))
theorem A4u (s : Sd12.St) (sub : Bool) (rd rn k : Nat) : Sd12.step s (.addImm3 sub rd rn k) = .on (((nx s).set rd (if sub = true then add (s.get rn) (not32 k) 1 else add (s.get rn) k 0).1).nzcv (if sub = true then add (s.get rn) (not32 k) 1 else add (s.get rn) k 0)) := rfl
theorem A2y (g : Good M pc) {sub : Bool} {rd rn k : Nat} (hw : Wf (.addImm3 sub rd rn k)) : Lk K H M pc (abI (.addImm3 sub rd rn k)) (.int (k : Nat)) (Sd12.step (stOf M pc) (.addImm3 sub rd rn k)) := by
  obtain ⟨h1, h2, h3⟩ := hw
  rw [A4u, g.get, g.nx]
  have hk := kw (Nat.lt_trans h3 (by decide))
  cases sub
  · exact lk3 12 (by decide) rfl rfl ALw (lt16 h1) (lt16 h2) hk (g.o_sum (n13 h1) (n15 h1))
  · exact lk3 15 (by decide) rfl rfl ALw (lt16 h1) (lt16 h2) hk (g.o_sum (n13 h1) (n15 h1))
theorem BBr (s : Sd12.St) (op rd k : Nat) : Sd12.step s (.imm8 op rd k) = if op = 0 then .on (((nx s).set rd k).nz k) else .on ((if op = 1 then nx s else (nx s).set rd (if op = 2 then add (s.get rd) k 0 else add (s.get rd) (not32 k) 1).1).nzcv (if op = 2 then add (s.get rd) k 0 else add (s.get rd) (not32 k) 1)) := rfl
theorem BCg (g : Good M pc) {op rd k : Nat} (hw : Wf (.imm8 op rd k)) : Lk K H M pc (abI (.imm8 op rd k)) (.int (k : Nat)) (Sd12.step (stOf M pc) (.imm8 op rd k)) := by
  obtain ⟨h1, h2, h3⟩ := hw
  rw [BBr, g.get, g.nx]
  have hk := kw h3
  have z : op = 0 ∨ op = 1 ∨ op = 2 ∨ op = 3 := by omega
  rcases z with rfl | rfl | rfl | rfl
  · exact lk2 0 (by decide) rfl rfl ALw (lt16 h2) hk (g.o_res (n13 h2) (n15 h2))
  · exact lk3 18 (by decide) rfl rfl ALw (lt16 h2) (lt16 h2) hk g.o_nzcv
  · exact lk3 12 (by decide) rfl rfl ALw (lt16 h2) (lt16 h2) hk (g.o_sum (n13 h2) (n15 h2))
  · exact lk3 15 (by decide) rfl rfl ALw (lt16 h2) (lt16 h2) hk (g.o_sum (n13 h2) (n15 h2))
noncomputable def aluS (s : Sd12.St) (op rd : Nat) (a b : Nat) (c : Bool) : Sd12.Out :=
  if op = 0 then .on (((nx s).set rd (Nat.land a b)).nz (Nat.land a b))
  else if op = 1 then .on (((nx s).set rd (Nat.xor a b)).nz (Nat.xor a b))
  else if op = 2 then .on { ((nx s).set rd (shift 0 a (b % 256) c).1).nz (shift 0 a (b % 256) c).1 with c := (shift 0 a (b % 256) c).2 }
  else if op = 3 then .on { ((nx s).set rd (shift 1 a (b % 256) c).1).nz (shift 1 a (b % 256) c).1 with c := (shift 1 a (b % 256) c).2 }
  else if op = 4 then .on { ((nx s).set rd (shift 2 a (b % 256) c).1).nz (shift 2 a (b % 256) c).1 with c := (shift 2 a (b % 256) c).2 }
  else if op = 5 then .on (((nx s).set rd (add a b (Sd12.toNat c)).1).nzcv (add a b (Sd12.toNat c)))
  else if op = 6 then .on (((nx s).set rd (add a (not32 b) (Sd12.toNat c)).1).nzcv (add a (not32 b) (Sd12.toNat c)))
  else if op = 7 then .on { ((nx s).set rd (shift 3 a (b % 256) c).1).nz (shift 3 a (b % 256) c).1 with c := (shift 3 a (b % 256) c).2 }
  else if op = 8 then .on ((nx s).nz (Nat.land a b))
  else if op = 9 then .on (((nx s).set rd (add (not32 b) 0 1).1).nzcv (add (not32 b) 0 1))
  else if op = 10 then .on ((nx s).nzcv (add a (not32 b) 1))
  else if op = 11 then .on ((nx s).nzcv (add a b 0))
  else if op = 12 then .on (((nx s).set rd (Nat.lor a b)).nz (Nat.lor a b))
  else if op = 13 then .on (((nx s).set rd (a * b % Sd12.W)).nz (a * b % Sd12.W))
  else if op = 14 then .on (((nx s).set rd (Nat.land a (not32 b))).nz (Nat.land a (not32 b)))
  else .on (((nx s).set rd (not32 b)).nz (not32 b))
theorem s_alu (s : Sd12.St) (op rd rm : Nat) : Sd12.step s (.alu op rd rm) = aluS s op rd (s.get rd) (s.get rm) s.c := rfl
theorem add_zero (b : Nat) : add (not32 b) 0 1 = add 0 (not32 b) 1 := by
  have h : (not32 b + 0 + 1) = (0 + not32 b + 1) := by omega
  unfold Sd12.add
  rw [h]
  refine Prod.ext rfl (Prod.ext rfl ?_)
  show (Sd12.bit (not32 b) 31 == Sd12.bit 0 31 && (Sd12.bit _ 31 != Sd12.bit (not32 b) 31)) = (Sd12.bit 0 31 == Sd12.bit (not32 b) 31 && (Sd12.bit _ 31 != Sd12.bit 0 31))
  cases Sd12.bit (not32 b) 31 <;> rfl
theorem l_alu (g : Good M pc) {op rd rm : Nat} (hw : Wf (.alu op rd rm)) {iv : V} : Lk K H M pc (abI (.alu op rd rm)) iv (Sd12.step (stOf M pc) (.alu op rd rm)) := by
  obtain ⟨h1, h2, h3⟩ := hw
  rw [s_alu, g.get, g.get]
  unfold aluS
  rw [g.nx]
  have a := lt16 h2
  have b := lt16 h3
  have c := g.lt rm
  have d := n13 h2
  have e := n15 h2
  have z : op = 0 ∨ op = 1 ∨ op = 2 ∨ op = 3 ∨ op = 4 ∨ op = 5 ∨ op = 6 ∨ op = 7 ∨ op = 8 ∨ op = 9 ∨ op = 10 ∨ op = 11 ∨ op = 12 ∨ op = 13 ∨ op = 14 ∨ op = 15 := by omega
  rcases z with rfl | rfl | rfl | rfl | rfl | rfl | rfl | rfl | rfl | rfl | rfl | rfl | rfl | rfl | rfl | rfl
  · exact lk3 2 (by decide) rfl rfl (AHv b) a a c (g.o_res d e)
  · exact lk3 6 (by decide) rfl rfl (AHv b) a a c (g.o_res d e)
  · exact lk3 8 (by decide) rfl rfl (AHv b) a a c (g.o_shf d e)
  · exact lk3 9 (by decide) rfl rfl (AHv b) a a c (g.o_shf d e)
  · exact lk3 10 (by decide) rfl rfl (AHv b) a a c (g.o_shf d e)
  · exact lk3 13 (by decide) rfl rfl (AHv b) a a c (g.o_sum d e)
  · exact lk3 16 (by decide) rfl rfl (AHv b) a a c (g.o_sum d e)
  · exact lk3 11 (by decide) rfl rfl (AHv b) a a c (g.o_shf d e)
  · exact lk3 3 (by decide) rfl rfl (AHv b) a a c g.o_nz
  · rw [add_zero]
    exact lk2 17 (by decide) rfl rfl (AHv b) a c (g.o_sum d e)
  · exact lk3 18 (by decide) rfl rfl (AHv b) a a c g.o_nzcv
  · exact lk3 14 (by decide) rfl rfl (AHv b) a a c g.o_nzcv
  · exact lk3 5 (by decide) rfl rfl (AHv b) a a c (g.o_res d e)
  · exact lk3 7 (by decide) rfl rfl (AHv b) a a c (g.o_res d e)
  · exact lk3 4 (by decide) rfl rfl (AHv b) a a c (g.o_res d e)
  · exact lk2 1 (by decide) rfl rfl (AHv b) a c (g.o_res d e)
end
end Chip
namespace Chip
open PySem L2 LX
open Sd12 (add not32 shift)
section
variable {K : Frag} {H : Hp} {M : Mx} {pc : Nat}
noncomputable def to (s : Sd12.St) (x : Nat) : Sd12.St := { s with r := s.r.set 15 (x % Sd12.W / 2 * 2) }
theorem to_eq {x : Nat} (h : x < 2 ^ 32) : to (stOf M pc) x = stOf M (x / 2 * 2) := by
  unfold to
  rw [BAc, Nat.mod_eq_of_lt (show x < Sd12.W from h)]
theorem Good.o_put (g : Good M pc) {d x : Nat} {z : Int} (e : (z % 4294967296).toNat = x) : Res M (M.put d z) pc (.on (if d = 15 then to (stOf M pc) x else (stOf M (pc + 2)).set d x)) := by
  have hx : x < 2 ^ 32 := e ▸ AH6 z
  unfold Mx.put
  rw [e]
  by_cases h : d = 15
  · rw [if_pos h, if_pos h, to_eq hx]
    exact g.o_go (A0z (y := 0) hx 2) (Nat.mul_mod_left _ _)
  · rw [if_neg h, if_neg h]
    by_cases h' : d = 13
    · rw [if_pos h', h']
      exact g.on_ rfl rfl rfl BAd
    · rw [if_neg h']
      exact g.o_set h' h
theorem BAr (s : Sd12.St) (op rd rm : Nat) : Sd12.step s (.high op rd rm) = if op = 1 then .on ((nx s).nzcv (add (s.get rd) (not32 (s.get rm)) 1)) else .on (if rd = 15 then to s (if op = 0 then (s.get rd + s.get rm) % Sd12.W else s.get rm) else (nx s).set rd (if op = 0 then (s.get rd + s.get rm) % Sd12.W else s.get rm)) := rfl
theorem BDb (g : Good M pc) {op rd rm : Nat} (hw : Wf (.high op rd rm)) {iv : V} : Lk K H M pc (abI (.high op rd rm)) iv (Sd12.step (stOf M pc) (.high op rd rm)) := by
  obtain ⟨h1, h2, h3⟩ := hw
  rw [BAr, g.get, g.get, g.nx]
  have c := g.lt rm
  have z : op = 0 ∨ op = 1 ∨ op = 2 := by omega
  rcases z with rfl | rfl | rfl
  · exact lk3 19 (by decide) rfl rfl (AHv h3) h2 h2 c (g.o_put (x := (rg M rd + rg M rm) % Sd12.W) (by show _ = (rg M rd + rg M rm) % 4294967296; omega))
  · exact lk3 18 (by decide) rfl rfl (AHv h3) h2 h2 c g.o_nzcv
  · exact lk2 22 (by decide) rfl rfl (AHv h3) h2 c (g.o_put (x := rg M rm) (by omega))
theorem bit0 (x : Nat) : (Sd12.bit x 0 = false) = ¬ x % 2 = 1 := by
  unfold Sd12.bit
  rw [Nat.pow_zero, Nat.div_one, beq_eq_false_iff_ne]
theorem BAv (s : Sd12.St) (l : Bool) (rm : Nat) : Sd12.step s (.branchReg l rm) = if Sd12.bit (s.get rm) 0 = false then .fault else .on (if l = true then { to s (s.get rm) with r := (to s (s.get rm)).r.set 14 ((s.pc + 2) % Sd12.W + 1) } else to s (s.get rm)) := rfl
theorem BDx {p x : Nat} : ({ stOf M p with r := (stOf M p).r.set 14 x } : Sd12.St) = stOf (M.set 14 x) p := by
  show ({ stOf M p with r := (M.r.set 15 p).set 14 x } : Sd12.St) = _
  rw [List.set_comm _ _ (by decide : (15 : Nat) ≠ 14)]
  rfl
theorem AWg {x : Nat} (h : x % 2 = 1) : x / 2 * 2 = x - 1 := by omega
theorem BDj (g : Good M pc) {l : Bool} {rm : Nat} (hw : Wf (.branchReg l rm)) {iv : V} : Lk K H M pc (abI (.branchReg l rm)) iv (Sd12.step (stOf M pc) (.branchReg l rm)) := by
  have hw : rm < 16 := hw
  have hx := g.lt rm
  have hp := g.pc
  rw [BAv, g.get, to_eq hx, g.s_pc, Nat.mod_eq_of_lt (show pc + 2 < Sd12.W by show pc + 2 < 2 ^ 32; omega), BDx]
  simp only [bit0]
  cases l
  · refine lk1 43 (by decide) rfl rfl (AHv hw) hx ?_
    show Res M (M.go (rg M rm)) pc _
    unfold Mx.go
    by_cases e : rg M rm % 2 = 1
    · rw [if_pos e, if_neg fun z => z e, AWg e]
      exact g.o_go (Nat.lt_of_le_of_lt (Nat.sub_le _ _) hx) (by omega)
    · rw [if_neg e, if_pos e]
      exact g.o_bad
  · refine ⟨_, 44, _, AHv hw, AHf 44 (by decide), rfl, fun k q => ⟨.non, .non, rg M rm, rfl, g.en, by rw [g.on]; omega, q _ ?_⟩⟩
    unfold Mx.blx
    by_cases e : rg M rm % 2 = 1
    · rw [if_pos e, if_neg fun z => z e, AWg e, g.on]
      exact ⟨g.en, rfl, Nat.lt_of_le_of_lt (Nat.sub_le _ _) hx, by show (rg M rm - 1) % 2 = 0; omega, rfl⟩
    · rw [if_neg e, if_pos e]
      exact g.o_bad
noncomputable def memN (op : Nat) : Nat := if op = 0 ∨ op = 4 then 4 else if op = 1 ∨ op = 5 ∨ op = 7 then 2 else 1
noncomputable def memS (s : Sd12.St) (op rt a : Nat) : Sd12.Out := if Sd12.place (memN op) a = false then .fault else if op ≤ 2 then .on ((nx s).store (memN op) a (s.r.getD rt 0)) else .on ((nx s).set rt (if op = 3 then Sd12.signed 8 (s.load 1 a) else if op = 7 then Sd12.signed 16 (s.load 2 a) else s.load (memN op) a))
theorem Good.o_st (g : Good M pc) {d n a : Nat} : Res M (M.st d a n) pc (if Sd12.place n a = false then .fault else .on ((stOf M (pc + 2)).store n a (rg M d))) := by
  unfold Mx.st
  cases e : Sd12.place n a with
  | false => rw [if_neg Bool.false_ne_true, if_pos rfl]; exact g.o_bad
  | true =>
    rw [if_pos rfl, if_neg (fun z => Bool.false_ne_true z.symm)]
    obtain ⟨_, _, _, _, _, h6, h7, h8⟩ := ALa M a (rg M d) n
    exact g.on_ h6 h7 h8 (AUf (by rw [g.size]; exact ALh e))
theorem Good.o_ld (g : Good M pc) {d n a y y' : Nat} (h : d < 8) (e : Sd12.place n a = true → y' = y) : Res M (M.ld d a n y) pc (if Sd12.place n a = false then .fault else .on ((stOf M (pc + 2)).set d y')) := by
  unfold Mx.ld
  cases c : Sd12.place n a with
  | false => rw [if_neg Bool.false_ne_true, if_pos rfl]; exact g.o_bad
  | true =>
    rw [if_pos rfl, if_neg (fun z => Bool.false_ne_true z.symm), e c]
    exact g.o_set (n13 h) (n15 h)
theorem A6o (g : Good M pc) (a : Nat) : M.mem.getD a 0 < 256 := by
  rw [List.getD_eq_getElem?_getD]
  cases e : M.mem[a]? with
  | none => show 0 < 256; decide
  | some v => exact g.byte v (List.mem_of_getElem? e)
theorem BD1 (g : Good M pc) {op rt rn y : Nat} {vm iv : V} {bi : Int ⊕ List Nat} {ops : List Str} (ho : op < 8) (ht : rt < 8) (hn : rn < 16) (hy : y < 2 ^ 32) (hs : AY3 M ⟨memNames.getD op "", vN rt, vN rn, vm, bi, ops⟩ iv (vN y)) :
    Lk K H M pc ⟨memNames.getD op "", vN rt, vN rn, vm, bi, ops⟩ iv (memS (stOf M pc) op rt ((rg M rn + y) % 2 ^ 32)) := by
  unfold memS
  rw [g.nx, g.rd (n15 ht), BD8, BAg]
  have a := lt16 ht
  have z : op = 0 ∨ op = 1 ∨ op = 2 ∨ op = 3 ∨ op = 4 ∨ op = 5 ∨ op = 6 ∨ op = 7 := by omega
  have hb := A6o g ((rg M rn + y) % 2 ^ 32)
  have hh := half_lt g.byte ((rg M rn + y) % 2 ^ 32)
  rcases z with rfl | rfl | rfl | rfl | rfl | rfl | rfl | rfl
  · exact lk3 30 (by decide) rfl rfl hs a hn hy g.o_st
  · exact lk3 31 (by decide) rfl rfl hs a hn hy g.o_st
  · exact lk3 32 (by decide) rfl rfl hs a hn hy g.o_st
  · exact lk3 38 (by decide) rfl rfl hs a hn hy (g.o_ld ht fun _ => (A8u (j := 7) hb (by decide)).symm)
  · exact lk3 33 (by decide) rfl rfl hs a hn hy (g.o_ld ht fun _ => A77 M pc _)
  · exact lk3 35 (by decide) rfl rfl hs a hn hy (g.o_ld ht fun _ => (BAg M pc _).trans (ws_0 (Nat.lt_trans hh (by decide))).symm)
  · exact lk3 37 (by decide) rfl rfl hs a hn hy (g.o_ld ht fun _ => (BD8 M pc _).trans (ws_0 (Nat.lt_trans hb (by decide))).symm)
  · exact lk3 36 (by decide) rfl rfl hs a hn hy (g.o_ld ht fun _ => (A8u (j := 15) hh (by decide)).symm)
theorem BC3 (s : Sd12.St) (op rt rn rm : Nat) : Sd12.step s (.memReg op rt rn rm) = memS s (if op = 3 then 3 else op) rt ((s.get rn + s.get rm) % Sd12.W) := rfl
theorem BBn (g : Good M pc) {op rt rn rm : Nat} (hw : Wf (.memReg op rt rn rm)) {iv : V} : Lk K H M pc (abI (.memReg op rt rn rm)) iv (Sd12.step (stOf M pc) (.memReg op rt rn rm)) := by
  obtain ⟨h1, h2, h3, h4⟩ := hw
  have e : (if op = 3 then 3 else op) = op := by
    by_cases c : op = 3
    · rw [if_pos c, c]
    · rw [if_neg c]
  rw [BC3, g.get, g.get, e]
  exact BD1 g h1 h2 (lt16 h3) (g.lt rm) (AHv (lt16 h4))
theorem BBf (s : Sd12.St) (op rt rn k : Nat) : Sd12.step s (.memImm op rt rn k) = memS s op rt ((s.get rn + k * AIn op) % Sd12.W) := rfl
theorem ms_lt {op k : Nat} (h : k < 256) : AIn op * k < 2 ^ 32 := by
  have : AIn op ≤ 4 := by
    unfold AIn
    repeat' split
    all_goals decide
  exact Nat.lt_of_le_of_lt (Nat.mul_le_mul this (Nat.le_of_lt h)) (by decide)
theorem BBu (g : Good M pc) {op rt rn k : Nat} (hw : Wf (.memImm op rt rn k)) : Lk K H M pc (abI (.memImm op rt rn k)) (.int ((AIn op * k : Nat) : Int)) (Sd12.step (stOf M pc) (.memImm op rt rn k)) := by
  obtain ⟨h1, h2, h3, h4⟩ := hw
  rw [BBf, g.get, Nat.mul_comm k]
  exact BD1 g h1 h2 h3 (ms_lt h4) ALw
theorem s_lit (s : Sd12.St) (rt k : Nat) : Sd12.step s (.literal rt k) = memS s 4 rt ((s.pc + 4) / 4 * 4 + 4 * k) := rfl
theorem l_lit (g : Good M pc) {rt k : Nat} (hw : Wf (.literal rt k)) : Lk K H M pc (abI (.literal rt k)) (.int ((4 * k : Nat) : Int)) (Sd12.step (stOf M pc) (.literal rt k)) := by
  obtain ⟨h1, h2⟩ := hw
  rw [s_lit, g.s_pc, ← g.r15]
  unfold memS
  rw [g.nx]
  exact ⟨_, 34, _, ALw, AHf 34 (by decide), rfl, fun k' q => ⟨rt, vN 15, 4 * k, rfl, lt16 h1, q _ (g.o_ld h1 fun _ => A77 M pc _)⟩⟩
theorem s_adr (s : Sd12.St) (sp : Bool) (rd k : Nat) : Sd12.step s (.adr sp rd k) = .on ((nx s).set rd (((if sp = true then s.get 13 else (s.pc + 4) / 4 * 4) + 4 * k) % Sd12.W)) := rfl
theorem l_adr (g : Good M pc) {sp : Bool} {rd k : Nat} (hw : Wf (.adr sp rd k)) : Lk K H M pc (abI (.adr sp rd k)) (.int ((4 * k : Nat) : Int)) (Sd12.step (stOf M pc) (.adr sp rd k)) := by
  obtain ⟨h1, h2⟩ := hw
  have hp := g.pc
  have h15 := g.r15
  have hk : 4 * k < 2 ^ 32 := by omega
  rw [s_adr, g.get, g.nx, g.s_pc, ← g.r15]
  cases sp
  · have hl : rg M 15 / 4 * 4 + 4 * k < 2 ^ 32 := by omega
    refine ⟨_, 21, _, ALw, AHf 21 (by decide), rfl, fun k' q => ⟨rd, vN 15, 4 * k, rfl, lt16 h1, hl, q _ ?_⟩⟩
    show Res _ _ _ (.on ((stOf M (pc + 2)).set rd ((rg M 15 / 4 * 4 + 4 * k) % Sd12.W)))
    rw [Nat.mod_eq_of_lt (show _ < Sd12.W from hl)]
    exact g.o_set (n13 h1) (n15 h1)
  · have z := g.o_put (d := rd) (x := (rg M 13 + 4 * k) % Sd12.W) (z := ((rg M 13 + 4 * k : Nat) : Int)) (by show _ = (rg M 13 + 4 * k) % 4294967296; omega)
    rw [if_neg (n15 h1)] at z
    exact lk3 19 (by decide) rfl rfl ALw (lt16 h1) (by decide) hk z
theorem s_spm (s : Sd12.St) (sub : Bool) (k : Nat) : Sd12.step s (.spMove sub k) = .on ((nx s).set 13 ((if sub = true then s.get 13 + Sd12.W - 4 * k else s.get 13 + 4 * k) % Sd12.W)) := rfl
theorem l_spm (g : Good M pc) {sub : Bool} {k : Nat} (hw : Wf (.spMove sub k)) : Lk K H M pc (abI (.spMove sub k)) (.int ((4 * k : Nat) : Int)) (Sd12.step (stOf M pc) (.spMove sub k)) := by
  have hw : k < 128 := hw
  have hk : 4 * k < 2 ^ 32 := by omega
  have h13 := g.lt 13
  rw [s_spm, g.get, g.nx]
  cases sub
  · exact lk3 19 (by decide) rfl rfl ALw (by decide) (by decide) hk (g.o_put (d := 13) (x := (rg M 13 + 4 * k) % Sd12.W) (by show _ = (rg M 13 + 4 * k) % 4294967296; omega))
  · exact lk3 20 (by decide) rfl rfl ALw (by decide) (by decide) hk (g.o_put (d := 13) (x := (rg M 13 + Sd12.W - 4 * k) % Sd12.W) (by show _ = (rg M 13 + 4294967296 - 4 * k) % 4294967296; omega))
theorem s_ext (s : Sd12.St) (op rd rm : Nat) : Sd12.step s (.extend op rd rm) = .on ((nx s).set rd (if op = 0 then Sd12.signed 16 (s.get rm % 65536) else if op = 1 then Sd12.signed 8 (s.get rm % 256) else if op = 2 then s.get rm % 65536 else s.get rm % 256)) := rfl
theorem l_ext (g : Good M pc) {op rd rm : Nat} (hw : Wf (.extend op rd rm)) {iv : V} : Lk K H M pc (abI (.extend op rd rm)) iv (Sd12.step (stOf M pc) (.extend op rd rm)) := by
  obtain ⟨h1, h2, h3⟩ := hw
  rw [s_ext, g.get, g.nx]
  have z : op = 0 ∨ op = 1 ∨ op = 2 ∨ op = 3 := by omega
  have a := lt16 h2
  have c := g.lt rm
  rcases z with rfl | rfl | rfl | rfl
  · rw [← A8u (j := 15) (Nat.mod_lt _ (by decide)) (by decide)]
    exact lk2 23 (by decide) rfl rfl (AHv (lt16 h3)) a c (g.o_set (n13 h2) (n15 h2))
  · rw [← A8u (j := 7) (Nat.mod_lt _ (by decide)) (by decide)]
    exact lk2 24 (by decide) rfl rfl (AHv (lt16 h3)) a c (g.o_set (n13 h2) (n15 h2))
  · exact lk2 25 (by decide) rfl rfl (AHv (lt16 h3)) a c (g.o_set (n13 h2) (n15 h2))
  · exact lk2 26 (by decide) rfl rfl (AHv (lt16 h3)) a c (g.o_set (n13 h2) (n15 h2))
noncomputable def bt (x k : Nat) : Nat := Sd12.bits x (8 * k) 8
theorem s_rev (s : Sd12.St) (op rd rm : Nat) : Sd12.step s (.reverse op rd rm) = .on ((nx s).set rd (if op = 0 then bt (s.get rm) 3 + 256 * bt (s.get rm) 2 + 65536 * bt (s.get rm) 1 + 16777216 * bt (s.get rm) 0 else if op = 1 then bt (s.get rm) 1 + 256 * bt (s.get rm) 0 + 65536 * bt (s.get rm) 3 + 16777216 * bt (s.get rm) 2 else Sd12.signed 16 (bt (s.get rm) 1 + 256 * bt (s.get rm) 0))) := rfl
theorem bt_eq (x : Nat) : bt x 0 = x % 256 ∧ bt x 1 = x / 256 % 256 ∧ bt x 2 = x / 65536 % 256 ∧ bt x 3 = x / 16777216 % 256 := by
  unfold bt Sd12.bits
  exact ⟨by show x / 1 % 256 = _; rw [Nat.div_one], rfl, rfl, rfl⟩
theorem l_rev (g : Good M pc) {op rd rm : Nat} (hw : Wf (.reverse op rd rm)) {iv : V} : Lk K H M pc (abI (.reverse op rd rm)) iv (Sd12.step (stOf M pc) (.reverse op rd rm)) := by
  obtain ⟨h1, h0, h2, h3⟩ := hw
  rw [s_rev, g.get, g.nx]
  obtain ⟨e0, e1, e2, e3⟩ := bt_eq (rg M rm)
  rw [e0, e1, e2, e3]
  have z : op = 0 ∨ op = 1 ∨ op = 3 := by omega
  have a := lt16 h2
  have c := g.lt rm
  rcases z with rfl | rfl | rfl
  · refine lk2 27 (by decide) rfl rfl (AHv (lt16 h3)) a c ?_
    have e : rev (rg M rm) = rg M rm / 16777216 % 256 + 256 * (rg M rm / 65536 % 256) + 65536 * (rg M rm / 256 % 256) + 16777216 * (rg M rm % 256) := by
      unfold rev swap
      omega
    show Res M (M.set rd (rev (rg M rm))) pc _
    rw [e]
    exact g.o_set (n13 h2) (n15 h2)
  · exact lk2 28 (by decide) rfl rfl (AHv (lt16 h3)) a c (g.o_set (n13 h2) (n15 h2))
  · refine lk2 29 (by decide) rfl rfl (AHv (lt16 h3)) a c ?_
    have e : swap (rg M rm % 65536) = rg M rm / 256 % 256 + 256 * (rg M rm % 256) := by
      unfold swap
      omega
    show Res M (M.set rd (ws (swap (rg M rm % 65536)) 32768)) pc (.on ((stOf M (pc + 2)).set rd (Sd12.signed 16 _)))
    rw [e, ← A8u (j := 15) (by omega) (by decide)]
    exact g.o_set (n13 h2) (n15 h2)
end
end Chip
namespace Chip
open PySem L2 LX
section
variable {K : Frag} {H : Hp} {M : Mx} {pc : Nat}
noncomputable def farN (pc : Nat) (off : Int) : Nat := ((((pc + 4 : Nat) : Int) + off) % 4294967296).toNat
theorem ATm (pc : Nat) (off : Int) : farN pc off < 2 ^ 32 := AH6 _
theorem A49 {off z : Int} (h : pc % 2 = 0) (e : off = 2 * z) : farN pc off % 2 = 0 := by
  unfold farN
  omega
theorem go_eq {off z : Int} (h : pc % 2 = 0) (e : off = 2 * z) : to (stOf M pc) (farN pc off) = stOf M (farN pc off) := by
  rw [to_eq (ATm pc off)]
  have := A49 h e
  congr 1
  omega
theorem Good.far (g : Good M pc) {off z : Int} (e : off = 2 * z) : Res M (M.far off) pc (.on (to (stOf M pc) (farN pc off))) := by
  rw [go_eq g.ev e]
  have e1 : M.far off = { M with on := farN pc off } := by
    unfold Mx.far farN
    rw [g.r15]
  rw [e1]
  exact g.o_go (ATm pc off) (A49 g.ev e)
theorem Good.l15 (g : Good M pc) : rg M 15 + 1 < 2 ^ 32 := by
  have := g.pc
  rw [g.r15]
  omega
theorem s_b (s : Sd12.St) (off : Int) : Sd12.step s (.branch off) = .on (to s ((((s.pc + 4 : Nat) : Int) + off) % Sd12.W).toNat) := rfl
theorem l_b (g : Good M pc) {off : Int} (hw : Wf (.branch off)) : Lk K H M pc (abI (.branch off)) (.int off) (Sd12.step (stOf M pc) (.branch off)) := by
  obtain ⟨z, e⟩ : ∃ z : Int, off = 2 * z := hw
  rw [s_b, g.s_pc]
  exact lkZ 45 (by decide) rfl rfl g.l15 (g.far e)
theorem BAp (s : Sd12.St) (c : Nat) (off : Int) : Sd12.step s (.cond c off) = .on (if Sd12.holds s c = true then to s ((((s.pc + 4 : Nat) : Int) + off) % Sd12.W).toNat else nx s) := rfl
theorem BCv (g : Good M pc) {c : Nat} {off : Int} (hw : Wf (.cond c off)) : Lk K H M pc (abI (.cond c off)) (.int off) (Sd12.step (stOf M pc) (.cond c off)) := by
  obtain ⟨_, z, e⟩ : c < 14 ∧ ∃ z : Int, off = 2 * z := hw
  rw [BAp, g.s_pc, g.nx]
  refine ⟨_, 46, _, ALw, AHf 46 (by decide), rfl, fun k q => ⟨c, .non, off, rfl, q _ ?_⟩⟩
  show Res M (if hold M c = true then M.far off else M) pc (.on (if hold M c = true then _ else _))
  by_cases h : hold M c = true
  · rw [if_pos h, if_pos h]
    exact g.far e
  · rw [if_neg h, if_neg h]
    exact g.on_ rfl rfl rfl rfl
theorem Good.n4 (g : Good M pc) : ((stOf M pc).pc + 4) % Sd12.W = pc + 4 := by
  have := g.pc
  rw [g.s_pc]
  exact Nat.mod_eq_of_lt (by show pc + 4 < 2 ^ 32; omega)
theorem BC9 (s : Sd12.St) (off : Int) : Sd12.step s (.link off) = .on { to s ((((s.pc + 4 : Nat) : Int) + off) % Sd12.W).toNat with r := (to s ((((s.pc + 4 : Nat) : Int) + off) % Sd12.W).toNat).r.set 14 ((s.pc + 4) % Sd12.W + 1) } := rfl
theorem BBi (g : Good M pc) {off : Int} (hw : Wf (.link off)) : Lk K H M pc (abI (.link off)) (.int off) (Sd12.step (stOf M pc) (.link off)) := by
  obtain ⟨z, e⟩ : ∃ z : Int, off = 2 * z := hw
  rw [BC9, g.n4, g.s_pc]
  refine lkZ 47 (by decide) rfl rfl g.l15 ?_
  show Res M ((M.set 14 (rg M 15 + 1)).far off) pc (.on { to (stOf M pc) (farN pc off) with r := (to (stOf M pc) (farN pc off)).r.set 14 (pc + 4 + 1) })
  rw [go_eq g.ev e, BDx]
  have e15 : rg (M.set 14 (rg M 15 + 1)) 15 = rg M 15 := AGk (by decide)
  have e1 : (M.set 14 (rg M 15 + 1)).far off = { M.set 14 (pc + 4 + 1) with on := farN pc off } := by
    unfold Mx.far farN
    rw [e15, g.r15]
  rw [e1]
  exact ⟨g.en, rfl, ATm pc off, A49 g.ev e, rfl⟩
theorem BA2 (g : Good M pc) {k : Nat} (hw : Wf (.call k)) : Lk K H M pc (abI (.call k)) (.int (k : Nat)) (Sd12.step (stOf M pc) (.call k)) := by
  have hw : k < 256 := hw
  have e : Sd12.step (stOf M pc) (.call k) = .called k (nx (stOf M pc)) := rfl
  rw [e, g.nx]
  exact lk1 51 (by decide) rfl rfl ALw (kw hw) ⟨hw, rfl, by show _ = stOf _ M.on; rw [g.on]; rfl, g.on_lt, g.on_ev, rfl⟩
theorem BC5 (g : Good M pc) {k : Nat} (hw : Wf (.halt_ k)) : Lk K H M pc (abI (.halt_ k)) (.int (k : Nat)) (Sd12.step (stOf M pc) (.halt_ k)) := by
  have hw : k < 256 := hw
  exact lk1 50 (by decide) rfl rfl ALw (kw hw) ⟨hw, rfl, rfl, rfl⟩
theorem l_nop (g : Good M pc) {l : Bool} {iv : V} (hl : l = true → pc + 4 ≤ 65536) : Lk K H M pc (abI (.nothing l)) iv (Sd12.step (stOf M pc) (.nothing l)) := by
  cases l
  · have e : Sd12.step (stOf M pc) (.nothing false) = .on (nx (stOf M pc)) := rfl
    rw [e, g.nx]
    exact lk0 49 (by decide) rfl rfl (g.on_ rfl rfl rfl rfl)
  · have e : Sd12.step (stOf M pc) (.nothing true) = .on { stOf M pc with r := (stOf M pc).r.set 15 (((stOf M pc).pc + 4) % Sd12.W) } := rfl
    rw [e, g.n4, BAc]
    refine lk0 48 (by decide) rfl rfl ?_
    have := g.pc
    have := g.ev
    have h := g.o_go (q := pc + 4) (by omega) (by omega)
    rw [← g.r15] at h
    rw [← g.r15]
    exact h
theorem lkL {f : Mx → Nat → List Nat → Mx} {x : Str} {n : Nat} {q : Addr} {l : List Nat} {bi : Int ⊕ List Nat} {ops : List Str} {vd : V} {o : Sd12.Out} (g : Good M pc) (j : Nat) (hj : j < 53) (hR : (doRs K)[j]? = some (DL K f)) (e : x = AKw.getD j "") (hn : n < 16) (hT : SqT K H q (l.map vN)) (hl : LOk l) (h : Res M (f M n l) pc o) : Lk K H M pc ⟨x, vd, vN n, .non, bi, ops⟩ (.ref q) o :=
  ⟨_, j, _, ALw, e ▸ AHf j hj, hR, fun k z => ⟨vd, n, q, l, rfl, hn, hT, hl, g.en, z _ h⟩⟩
theorem A46 (M : Mx) (p : Nat) (l : List Nat) (i : Nat) : (M.putl p l i).mem.length = M.mem.length := by
  induction i with
  | zero => rfl
  | succ i ih => exact (ARg _ _ _ _).trans ih
theorem ARm (M : Mx) (p : Nat) (l : List Nat) (i : Nat) : (M.putl p l i).en = M.en ∧ (M.putl p l i).on = M.on ∧ (M.putl p l i).m0 = M.m0 := by
  induction i with
  | zero => exact ⟨rfl, rfl, rfl⟩
  | succ i ih =>
    obtain ⟨_, _, _, _, _, h6, h7, h8⟩ := ALa (M.putl p l i) (p + 4 * i) (M.r.getD (l.getD i 0) 0) 4
    exact ⟨h6.trans ih.1, h7.trans ih.2.1, h8.trans ih.2.2⟩
theorem BCm (s : Sd12.St) : ∀ (l1 l2 : List Nat) (t : Sd12.St) (a : Nat), Sd12.storeList s t a (l1 ++ l2) = Sd12.storeList s (Sd12.storeList s t a l1) (a + 4 * l1.length) l2 := by
  intro l1
  induction l1 with
  | nil => intro l2 t a; rfl
  | cons x l1 ih =>
    intro l2 t a
    show Sd12.storeList s (t.store 4 a (s.r.getD x 0)) (a + 4) (l1 ++ l2) = Sd12.storeList s (Sd12.storeList s (t.store 4 a (s.r.getD x 0)) (a + 4) l1) (a + 4 * (l1.length + 1)) l2
    rw [ih, show a + 4 + 4 * l1.length = a + 4 * (l1.length + 1) from by omega]
theorem AYt (s t : Sd12.St) (a x : Nat) : Sd12.storeList s t a [x] = t.store 4 a (s.r.getD x 0) := rfl
theorem AY6 (M : Mx) (p : Nat) (l : List Nat) (i : Nat) : M.putl p l (i + 1) = (M.putl p l i).store (p + 4 * i) (M.r.getD (l.getD i 0) 0) 4 := rfl
theorem take_succ_getD {l : List Nat} {i : Nat} (h : i < l.length) : l.take (i + 1) = l.take i ++ [l.getD i 0] := by
  rw [List.take_add_one, List.getElem?_eq_getElem h, List.getD_eq_getElem?_getD, List.getElem?_eq_getElem h]
  rfl
theorem Good.putl (g : Good M pc) {q p : Nat} {l : List Nat} (hr : ∀ r ∈ l, r ≠ 15) (hp : p + 4 * l.length ≤ 65536) : ∀ i, i ≤ l.length → Sd12.storeList (stOf M pc) (stOf M q) p (l.take i) = stOf (M.putl p l i) q := by
  intro i
  induction i with
  | zero => intro _; rfl
  | succ i ih =>
    intro hi
    rw [take_succ_getD hi, BCm, ih (Nat.le_of_lt hi), List.length_take, Nat.min_eq_left (Nat.le_of_lt hi)]
    rw [AYt, AY6, g.rd (hr _ (getD_in hi)), AUf (by rw [A46, g.size]; omega)]
end
end Chip
namespace Chip
open PySem L2 LX
section
variable {K : Frag} {H : Hp} {M : Mx} {pc : Nat}
theorem AOn (s : Sd12.St) (d x : Nat) : ∀ (l : List Nat) (t : Sd12.St) (a : Nat), Sd12.storeList s (t.set d x) a l = (Sd12.storeList s t a l).set d x := by
  intro l
  induction l with
  | nil => intro t a; rfl
  | cons y l ih => intro t a; exact ih (t.store 4 a (s.r.getD y 0)) (a + 4)
theorem Good.putl_all (g : Good M pc) {q p : Nat} {l : List Nat} (hr : ∀ r ∈ l, r ≠ 15) (hp : p + 4 * l.length ≤ 65536) : Sd12.storeList (stOf M pc) (stOf M q) p l = stOf (M.putl p l l.length) q := by
  have z := g.putl (q := q) hr hp l.length (Nat.le_refl _)
  rw [List.take_length] at z
  exact z
theorem A8h {a : Nat} {l : List Nat} (h : ¬ AN4 a l) : a / 4 * 4 = a := by
  have e : Sd12.place 4 a = true := by
    cases c : Sd12.place 4 a with
    | true => rfl
    | false => exact absurd (.inl c) h
  have z : a % 4 = 0 := by simpa using (Bool.and_eq_true_iff.mp e).1
  omega
theorem BBd (s : Sd12.St) (l : List Nat) : Sd12.step s (.push l) = if AN4 ((s.get 13 + Sd12.W - 4 * l.length) % Sd12.W) l then .fault else .on (Sd12.storeList s ((nx s).set 13 ((s.get 13 + Sd12.W - 4 * l.length) % Sd12.W)) ((s.get 13 + Sd12.W - 4 * l.length) % Sd12.W) l) := rfl
theorem A1d {l l0 : List Nat} {k : Nat} (h : ∀ r ∈ l0, r < 8) (e : l = l0 ∨ l = l0 ++ [k]) : ∀ r ∈ l, r < 8 ∨ r = k := by
  intro r hr
  rcases e with rfl | rfl
  · exact .inl (h r hr)
  · rcases List.mem_append.mp hr with z | z
    · exact .inl (h r z)
    · exact .inr (List.mem_singleton.mp z)
theorem BA6 (g : Good M pc) {l : List Nat} {q : Addr} (hw : Wf (.push l)) (hT : SqT K H q (l.map vN)) : Lk K H M pc (abI (.push l)) (.ref q) (Sd12.step (stOf M pc) (.push l)) := by
  obtain ⟨h1, h2, l0, h3, h4⟩ := hw
  have hm := A1d h3 h4
  have h13 := g.lt 13
  have ep : (rg M 13 + Sd12.W - 4 * l.length) % Sd12.W = AXh M l := by
    unfold AXh
    show (rg M 13 + 4294967296 - 4 * l.length) % 4294967296 = _
    omega
  rw [BBd, g.get, g.nx, ep]
  refine lkL g 39 (by decide) rfl rfl (by decide) hT ⟨h1, fun r hr => (hm r hr).elim lt16 fun e => e ▸ (by decide), h2⟩ ?_
  show Res M (M.push 13 l) pc _
  unfold Mx.push
  by_cases c : AN4 (AXh M l) l
  · rw [if_pos c, if_pos c]
    exact g.o_bad
  · rw [if_neg c, if_neg c, AOn, g.putl_all (fun r hr => (hm r hr).elim n15 fun e => e ▸ (by decide)) (AI1 c), BAd, A8h c]
    obtain ⟨a, b, d⟩ := ARm M (AXh M l) l l.length
    exact g.on_ a b d rfl
theorem BEt (s : Sd12.St) : ∀ (l1 l2 : List Nat) (t : Sd12.St) (a : Nat), Sd12.loadList s t a (l1 ++ l2) = Sd12.loadList s (Sd12.loadList s t a l1) (a + 4 * l1.length) l2 := by
  intro l1
  induction l1 with
  | nil => intro l2 t a; rfl
  | cons x l1 ih =>
    intro l2 t a
    show Sd12.loadList s (t.set x (s.load 4 a)) (a + 4) (l1 ++ l2) = Sd12.loadList s (Sd12.loadList s (t.set x (s.load 4 a)) (a + 4) l1) (a + 4 * (l1.length + 1)) l2
    rw [ih, show a + 4 + 4 * l1.length = a + 4 * (l1.length + 1) from by omega]
theorem AV0 (s t : Sd12.St) (a x : Nat) : Sd12.loadList s t a [x] = t.set x (s.load 4 a) := rfl
theorem take_succ (M : Mx) (p : Nat) (l : List Nat) (i : Nat) : M.take p l (i + 1) = (M.take p l i).set (l.getD i 0) (word M.mem (p + 4 * i)) := rfl
theorem take_all {N : Mx} (e : N.mem = M.mem) {q p : Nat} {l : List Nat} (hr : ∀ r ∈ l, r < 8) : Sd12.loadList (stOf M pc) (stOf N q) p l = stOf (N.take p l l.length) q := by
  have z : ∀ i, i ≤ l.length → Sd12.loadList (stOf M pc) (stOf N q) p (l.take i) = stOf (N.take p l i) q := by
    intro i
    induction i with
    | zero => intro _; rfl
    | succ i ih =>
      intro hi
      have h := hr _ (getD_in hi)
      rw [take_succ_getD hi, BEt, ih (Nat.le_of_lt hi), List.length_take, Nat.min_eq_left (Nat.le_of_lt hi), AV0, take_succ, A77, APc (n13 h) (n15 h), e]
  have z := z l.length (Nat.le_refl _)
  rw [List.take_length] at z
  exact z
theorem set_comm (M : Mx) {a b x y : Nat} (h : a ≠ b) : (M.set a x).set b y = (M.set b y).set a x := by
  unfold Mx.set
  exact congrArg (fun r => ({ M with r := r } : Mx)) (List.set_comm _ _ h)
theorem take_set (M : Mx) (p d x : Nat) (l : List Nat) (hd : ∀ r ∈ l, r ≠ d) : ∀ i, i ≤ l.length → (M.set d x).take p l i = (M.take p l i).set d x := by
  intro i
  induction i with
  | zero => intro _; rfl
  | succ i ih =>
    intro hi
    rw [take_succ, take_succ, ih (Nat.le_of_lt hi)]
    exact set_comm _ fun z => hd _ (getD_in hi) z.symm
theorem ANz (M : Mx) (p : Nat) (l : List Nat) (i : Nat) : (M.take p l i).en = M.en ∧ (M.take p l i).on = M.on ∧ (M.take p l i).m0 = M.m0 := by
  induction i with
  | zero => exact ⟨rfl, rfl, rfl⟩
  | succ i ih => exact ih
theorem BDn (s : Sd12.St) (ld : Bool) (rn : Nat) (l : List Nat) : Sd12.step s (.many ld rn l) = if AN4 (s.get rn) l then .fault else if ld = true then .on (Sd12.loadList s (if l.contains rn = true then nx s else (nx s).set rn (s.get rn + 4 * l.length)) (s.get rn) l) else .on (Sd12.storeList s ((nx s).set rn (s.get rn + 4 * l.length)) (s.get rn) l) := rfl
theorem A7y {l : List Nat} {n : Nat} (h : ¬ l.contains n = true) : ∀ r ∈ l, r ≠ n := fun r hr e => h (List.contains_iff_mem.mpr (e ▸ hr))
theorem BAy (g : Good M pc) {ld : Bool} {rn : Nat} {l : List Nat} {q : Addr} (hw : Wf (.many ld rn l)) (hT : SqT K H q (l.map vN)) : Lk K H M pc (abI (.many ld rn l)) (.ref q) (Sd12.step (stOf M pc) (.many ld rn l)) := by
  obtain ⟨h1, h2, h3, h4⟩ := hw
  have hl : LOk l := ⟨h2, fun r hr => lt16 (h4 r hr), h3⟩
  rw [BDn, g.get, g.nx]
  cases ld
  · refine lkL g 41 (by decide) rfl rfl (lt16 h1) hT hl ?_
    show Res M (M.stm rn l) pc _
    unfold Mx.stm
    by_cases c : AN4 (rg M rn) l
    · rw [if_pos c, if_pos c]
      exact g.o_bad
    · rw [if_neg c, if_neg c, if_neg Bool.false_ne_true, AOn, g.putl_all (fun r hr => n15 (h4 r hr)) (AI1 c), APc (n13 h1) (n15 h1)]
      obtain ⟨a, b, d⟩ := ARm M (rg M rn) l l.length
      exact g.on_ a b d rfl
  · refine lkL g 42 (by decide) rfl rfl (lt16 h1) hT hl ?_
    show Res M (M.ldm rn l) pc _
    unfold Mx.ldm
    by_cases c : AN4 (rg M rn) l
    · rw [if_pos c, if_pos c]
      exact g.o_bad
    · obtain ⟨a, b, d⟩ := ANz M (rg M rn) l l.length
      rw [if_neg c, if_neg c, if_pos rfl]
      by_cases e : l.contains rn = true
      · rw [if_pos e, if_pos e, take_all rfl h4]
        exact g.on_ a b d rfl
      · rw [if_neg e, if_neg e, APc (n13 h1) (n15 h1), take_all (M := M) (N := M.set rn _) rfl h4, take_set _ _ _ _ _ (A7y e) _ (Nat.le_refl _)]
        exact g.on_ a b d rfl
theorem s_pop (s : Sd12.St) (l : List Nat) : Sd12.step s (.pop l) = if Sd12.place 4 (s.get 13) = false ∨ Sd12.SIZE < s.get 13 + 4 * l.length ∨ (l.getLast? = some 15 ∧ Sd12.bit (s.load 4 (s.get 13 + 4 * (l.length - 1))) 0 = false) then .fault else .on (Sd12.loadList s ((nx s).set 13 (s.get 13 + 4 * l.length)) (s.get 13) l) := rfl
theorem BDo {a : Nat} {l : List Nat} {p : Prop} : (Sd12.place 4 a = false ∨ Sd12.SIZE < a + 4 * l.length ∨ p) ↔ (AN4 a l ∨ p) := ⟨fun h => h.elim (fun z => .inl (.inl z)) fun h => h.elim (fun z => .inl (.inr z)) .inr, fun h => h.elim (fun z => z.elim .inl fun z => .inr (.inl z)) fun z => .inr (.inr z)⟩
theorem A4q (M : Mx) (p : Nat) (l0 l1 : List Nat) : ∀ i, i ≤ l0.length → M.take p (l0 ++ l1) i = M.take p l0 i := by
  intro i
  induction i with
  | zero => intro _; rfl
  | succ i ih =>
    intro hi
    have e : (l0 ++ l1).getD i 0 = l0.getD i 0 := by
      rw [List.getD_eq_getElem?_getD, List.getElem?_append_left hi, List.getD_eq_getElem?_getD]
    rw [take_succ, take_succ, ih (Nat.le_of_lt hi), e]
theorem BCz {N : Mx} {p x : Nat} : (stOf N p).set 15 x = stOf N (x / 2 * 2) := by
  show ({ stOf N p with r := (stOf N p).r.set 15 (x / 2 * 2) } : Sd12.St) = _
  exact BAc _ _
theorem l_pop (g : Good M pc) {l : List Nat} {q : Addr} (hw : Wf (.pop l)) (hT : SqT K H q (l.map vN)) : Lk K H M pc (abI (.pop l)) (.ref q) (Sd12.step (stOf M pc) (.pop l)) := by
  obtain ⟨h1, h2, l0, h3, h4⟩ := hw
  have hm := A1d h3 h4
  rw [s_pop, g.get, g.nx, A77]
  refine lkL g 40 (by decide) rfl rfl (by decide) hT ⟨h1, fun r hr => (hm r hr).elim lt16 fun e => e ▸ (by decide), h2⟩ ?_
  show Res M (M.pop 13 l) pc _
  unfold Mx.pop
  simp only [BDo]
  by_cases c : AN4 (rg M 13) l
  · rw [if_pos c, if_pos (.inl c)]
    exact g.o_bad
  rw [if_neg c]
  have e13 := A8h c
  have ex : (rg M 13 + 4 * l.length) / 4 * 4 = rg M 13 + 4 * l.length := by omega
  have d13 : ∀ r ∈ l0, r ≠ 13 := fun r hr => n13 (h3 r hr)
  rcases h4 with rfl | rfl
  · have no : ¬ l.getLast? = some 15 := fun z => n15 (h3 15 (List.mem_of_getLast? z)) rfl
    have el : AZj M l = M := if_neg no
    have hc : ¬ (AN4 (rg M 13) l ∨ (l.getLast? = some 15 ∧ Sd12.bit (word M.mem (rg M 13 + 4 * (l.length - 1))) 0 = false)) := fun z => z.elim c fun z => no z.1
    rw [el, if_neg (by rw [g.en]; decide), if_neg hc, BAd, ex, take_all (M := M) (N := M.set 13 _) rfl h3, take_set _ _ _ _ _ d13 _ (Nat.le_refl _)]
    obtain ⟨a, b, d⟩ := ANz M (rg M 13) l l.length
    exact g.on_ a b d rfl
  · have yes : (l0 ++ [15]).getLast? = some 15 := List.getLast?_concat
    have ll : (l0 ++ [15]).length = l0.length + 1 := by rw [List.length_append]; rfl
    have ew : rg M 13 + 4 * (l0 ++ [15]).length - 4 = rg M 13 + 4 * ((l0 ++ [15]).length - 1) := by rw [ll]; omega
    have el : AZj M (l0 ++ [15]) = M.go (word M.mem (rg M 13 + 4 * ((l0 ++ [15]).length - 1))) := by
      unfold AZj
      rw [if_pos yes, ew]
    have e4 : rg M 13 + 4 * ((l0 ++ [15]).length - 1) = rg M 13 + 4 * l0.length := by rw [ll, Nat.add_sub_cancel]
    rw [el]
    have hx : word M.mem (rg M 13 + 4 * l0.length) < 2 ^ 32 := ATt g.byte _
    rw [e4]
    unfold Mx.go
    simp only [bit0]
    by_cases e : word M.mem (rg M 13 + 4 * l0.length) % 2 = 1
    · have hc : ¬ (AN4 (rg M 13) (l0 ++ [15]) ∨ ((l0 ++ [15]).getLast? = some 15 ∧ ¬ word M.mem (rg M 13 + 4 * l0.length) % 2 = 1)) := fun z => z.elim c fun z => z.2 e
      rw [if_pos e, if_neg (by show ¬ M.en = 2; rw [g.en]; decide), if_neg hc, BAd, ex, BEt, take_all (M := M) (N := M.set 13 _) rfl h3, AV0, A77, BCz, take_set _ _ _ _ _ d13 _ (Nat.le_refl _), AWg e]
      have t1 : ({ M with on := word M.mem (rg M 13 + 4 * l0.length) - 1 } : Mx).take (rg M 13) (l0 ++ [15]) (l0 ++ [15]).length = (({ M with on := word M.mem (rg M 13 + 4 * l0.length) - 1 } : Mx).take (rg M 13) l0 l0.length).set 15 (word M.mem (rg M 13 + 4 * l0.length)) := by
        rw [ll, take_succ, A4q _ _ _ _ _ (Nat.le_refl _)]
        congr 1
        rw [List.getD_eq_getElem?_getD, List.getElem?_append_right (Nat.le_refl _), Nat.sub_self]
        rfl
      rw [t1]
      obtain ⟨a, b, d⟩ := ANz ({ M with on := word M.mem (rg M 13 + 4 * l0.length) - 1 } : Mx) (rg M 13) l0 l0.length
      have tk : ∀ i, ({ M with on := word M.mem (rg M 13 + 4 * l0.length) - 1 } : Mx).take (rg M 13) l0 i = { M.take (rg M 13) l0 i with on := word M.mem (rg M 13 + 4 * l0.length) - 1 } := by
        intro i
        induction i with
        | zero => rfl
        | succ i ih => rw [take_succ, take_succ, ih]; rfl
      refine ⟨a.trans g.en, ?_, ?_, ?_, d⟩
      · rw [tk]
        show stOf ((M.take (rg M 13) l0 l0.length).set 13 _) _ = stOf ((({ M.take (rg M 13) l0 l0.length with on := _ } : Mx).set 15 _).set 13 _) (word M.mem (rg M 13 + 4 * l0.length) - 1)
        unfold stOf Mx.set
        simp only
        rw [List.set_comm _ _ (by decide : (15 : Nat) ≠ 13), List.set_set]
      · rw [tk]
        exact Nat.lt_of_le_of_lt (Nat.sub_le _ _) hx
      · rw [tk]
        show (word M.mem (rg M 13 + 4 * l0.length) - 1) % 2 = 0
        omega
    · rw [if_neg e, if_pos (show M.bad.en = 2 from rfl), if_pos (.inr ⟨yes, e⟩)]
      exact g.o_bad
end
end Chip
namespace Chip
open PySem L2 LX
noncomputable def knK (ks : List (Nat × Addr)) : List (Key × V) := ks.map fun p => (.inl (p.1 : Int), .ref p.2)
structure Kn (K : Frag) (H : Hp) (kd : Addr) (ks : List (Nat × Addr)) : Prop where
  at_ : H kd = some (.dK (knK ks))
  nd : (ks.map (·.1)).Nodup
  ok : ∀ p ∈ ks, p.1 < 65536 ∧ ∀ nx, AM6 K H p.2 (abOf (Sd12.decode p.1 nx))
section
variable {K : Frag} {H H' : Hp} {kd q : Addr} {ks : List (Nat × Addr)} {b : Ab} {xs : List V}
theorem APn (f : ∀ o, (∃ ys, o = HO.tup ys) ∨ (∃ a ys, o = .frz a (.tup ys)) → H q = some o → H' q = some o) (h : SqT K H q xs) : SqT K H' q xs := by
  rcases h with h | h
  · rcases h with h | ⟨o, h⟩
    · exact .inl (.inl (f _ (.inl ⟨_, rfl⟩) h))
    · exact .inl (.inr ⟨o, f _ (.inr ⟨_, _, rfl⟩) h⟩)
  · exact .inr h
noncomputable def AO7 (H H' : Hp) : Prop := ∀ q o, (∃ ys, o = HO.tup ys) ∨ (∃ a ys, o = .frz a (.tup ys)) → H q = some o → H' q = some o
theorem AM6.keep (f : AO7 H H') (h : AM6 K H q b) : AM6 K H' q b := by
  obtain ⟨iv, po, h1, h2, h3⟩ := h
  refine ⟨iv, po, APn (f q) h1, APn (f po) h2, ?_⟩
  cases hi : b.i with
  | inl z => rw [hi] at h3; exact h3
  | inr l =>
    rw [hi] at h3
    obtain ⟨t, e, h⟩ := h3
    exact ⟨t, e, APn (f t) h⟩
theorem AVj {kvs : List (Key × V)} {o : HO} (h : H kd = some (.dK kvs)) : AO7 H (upd H kd o) := fun t u hu e => by
  have ne : t ≠ kd := by
    rintro rfl
    rw [h] at e
    rcases hu with ⟨_, rfl⟩ | ⟨_, _, rfl⟩ <;> cases e
  rw [ABi ne]
  exact e
theorem AQl {C m : Addr} {A : Ad} {M : Mx} (hM : MAt C H m A M) (c : Chg A m H H') : AO7 H H' := fun t u hu e => by
  have n : (∀ d fs, u ≠ .ins C d fs) ∧ (∀ ys, u ≠ .lst ys) ∧ ∀ ys, u ≠ .dK ys := by
    rcases hu with ⟨_, rfl⟩ | ⟨_, _, rfl⟩
    · exact ⟨fun _ _ z => (by cases z), fun _ z => (by cases z), fun _ z => (by cases z)⟩
    · exact ⟨fun _ _ z => (by cases z), fun _ z => (by cases z), fun _ z => (by cases z)⟩
  obtain ⟨a1, a2, a3, a4⟩ := hM.tup_ne e n.1 n.2.1 n.2.2
  exact c _ _ e a1 a2 a3 a4
theorem Kn.keep (k : Kn K H kd ks) (f : AO7 H H') (e : H' kd = some (.dK (knK ks))) : Kn K H' kd ks := ⟨e, k.nd, fun p hp => ⟨(k.ok p hp).1, fun nx => ((k.ok p hp).2 nx).keep f⟩⟩
theorem BCf {ks : List (Nat × Addr)} {h : Nat} {v : V} (e : valV (knK ks) (.inl (h : Int)) = some v) : ∃ p ∈ ks, p.1 = h ∧ v = .ref p.2 := by
  induction ks with
  | nil => cases e
  | cons p r ih =>
    by_cases c : p.1 = h
    · have z : valV (knK (p :: r)) (.inl (h : Int)) = some (.ref p.2) := AI0 (p := ((.inl (p.1 : Int) : Key), V.ref p.2)) (r := knK r) ((AMm _ _).mpr c)
      rw [z] at e
      exact ⟨p, List.mem_cons_self, c, (Option.some.inj e).symm⟩
    · have z : valV (knK (p :: r)) (.inl (h : Int)) = valV (knK r) (.inl (h : Int)) := AJh (p := ((.inl (p.1 : Int) : Key), V.ref p.2)) (r := knK r) fun z => c ((AMm _ _).mp z)
      rw [z] at e
      obtain ⟨p', hp, h1, h2⟩ := ih e
      exact ⟨p', List.mem_cons_of_mem _ hp, h1, h2⟩
theorem A8i {ks : List (Nat × Addr)} {h : Nat} (e : valV (knK ks) (.inl (h : Int)) = none) : h ∉ ks.map (·.1) := by
  induction ks with
  | nil => exact List.not_mem_nil
  | cons p r ih =>
    by_cases c : p.1 = h
    · have z : valV (knK (p :: r)) (.inl (h : Int)) = some (.ref p.2) := AI0 (p := ((.inl (p.1 : Int) : Key), V.ref p.2)) (r := knK r) ((AMm _ _).mpr c)
      rw [z] at e
      cases e
    · have z : valV (knK (p :: r)) (.inl (h : Int)) = valV (knK r) (.inl (h : Int)) := AJh (p := ((.inl (p.1 : Int) : Key), V.ref p.2)) (r := knK r) fun z => c ((AMm _ _).mp z)
      rw [z] at e
      intro hm
      rcases List.mem_cons.mp hm with q | q
      · exact c q.symm
      · exact ih e q
theorem BAz {h : Nat} (e : valV (knK ks) (.inl (h : Int)) = none) : putK (knK ks) (.inl (h : Int)) (.ref q) = knK (ks ++ [(h, q)]) := by
  unfold putK
  rw [ANj, e, if_neg (by decide)]
  unfold knK
  rw [List.map_append]
  rfl
theorem Kn.len (k : Kn K H kd ks) : (knK ks).length < sizeLine := by
  unfold knK
  rw [List.length_map]
  have z := APm k.nd fun x hx => by
    obtain ⟨p, hp, rfl⟩ := List.mem_map.mp hx
    exact (k.ok p hp).1
  rw [List.length_map] at z
  exact Nat.lt_of_le_of_lt z (by decide)
theorem Kn.put (k : Kn K H kd ks) {h : Nat} (e : valV (knK ks) (.inl (h : Int)) = none) (hh : h < 65536) (hi : ∀ nx, AM6 K H q (abOf (Sd12.decode h nx))) : Kn K (upd H kd (.dK (putK (knK ks) (.inl (h : Int)) (.ref q)))) kd (ks ++ [(h, q)]) := by
  have f : AO7 H (upd H kd (.dK (putK (knK ks) (.inl (h : Int)) (.ref q)))) := AVj k.at_
  refine ⟨by rw [AAv, BAz e], ?_, fun p hp => ?_⟩
  · rw [List.map_append]
    refine List.nodup_append.mpr ⟨k.nd, by simp, fun x hx y hy => ?_⟩
    rintro rfl
    have hy : x = h := List.mem_singleton.mp hy
    exact A8i e (hy ▸ hx)
  · rcases List.mem_append.mp hp with z | z
    · exact ⟨(k.ok p z).1, fun nx => ((k.ok p z).2 nx).keep f⟩
    · rw [List.mem_singleton.mp z]
      exact ⟨hh, fun nx => (hi nx).keep f⟩
end
theorem A0v {σ : L2.St} {H : Hp} {td ty : TE} {a : Addr} {y v : V} (ha : Is td σ H (.ref a)) (hb : Is ty σ H y) (g : DGet H a y (some v)) : Is (BEp td ty) σ H v := fun Q q => ha _ (hb _ ⟨a, v, rfl, g, q⟩)
noncomputable def ChgK (kd : Addr) (H H' : Hp) : Prop := ∀ b o, H b = some o → b ≠ kd → H' b = some o
section
variable {P : Program} {w : World} {K : Frag} {mg : Str → Option Value} {base : Heap} {C : Addr}
noncomputable def BBw (K : Frag) : Sp := fun vs H Q _ => ∃ (a : Addr) (m : List Nat) (p : Nat) (kd : Addr) (ks : List (Nat × Addr)), vs = [.ref a, vN p, .ref kd] ∧ SqL K H a (m.map vN) ∧ (∀ x ∈ m, x < 256) ∧ m.length = 65536 ∧ p + 2 ≤ 65536 ∧ Kn K H kd ks ∧
  ∀ q H' ks', ChgK kd H H' → Kn K H' kd ks' → AM6 K H' q (abOf (AQv m p)) → Q (.ref q) H'
theorem AJn (T : Txt K mg) : Fn P w K mg base "instruction_now" 5 ["memory", "place", "known"] (BBw K) := by
  have G_half_at := AIt (P := P) (w := w) (base := base) T
  have G_is_first_half := AG5 (P := P) (w := w) (base := base) T
  have G_instruction_at := AJ5 (P := P) (w := w) (base := base) T
  refine T.AJ7.fn AD5 (fun _ _ _ _ _ _ => ln3 (fun _ _ _ => rfl)) (fun vs H Q E h => ?_) (fun f cdv A outer s H vs Q E hr h => ?_)
  · obtain ⟨a, m, p, kd, ks, rfl, _⟩ := h
    rfl
  obtain ⟨a, m, p, kd, ks, rfl, hm, hb, hl, hp, kn, k⟩ := h
  refine ⟨_, (@AAf _ _ _ _ _ (@ABk _ _ 3 _ _ _ _ AD5.nd rfl (Or.inl (lj AAm 3 rfl)) (@ABy _ _ _ _ _ _ _ _ _ _ G_half_at (hmo hr) (lj AAm 0 rfl) (@AAa _ _ _ _ _ (pV 0 AAm 1 nms0 14 rfl rfl rfl) (@AAa _ _ _ _ _ (pV 1 AAm 2 nms0 16 rfl rfl rfl) AAi rfl) rfl) (nj nms1 1 rfl).1 rfl rfl) rfl (.inl rfl)) (@AAf _ _ _ _ _ (@AEn _ _ _ _ _ _ _ _ (@A9y _ _ _ _ _ _ (@BCy _ _ _ _ _ (BAi hr) (pV 3 AAm 3 nms1 5 rfl rfl rfl) (pV 2 AAm 4 nms5 7 rfl rfl rfl)) rfl) (@AAg _ _ _ (@AAw _ _ _ _ (@A1k _ _ _ _ _ _ (BAi hr) (pV 2 AAm 4 nms5 7 rfl rfl rfl) (pV 3 AAm 3 nms1 5 rfl rfl rfl) (fun _ _ => rfl)))) ABf) (@AAf _ _ _ _ _ (@ABk _ _ 4 _ _ _ _ AD5.nd rfl (Or.inl (lj AAm 6 rfl)) (@ABy _ _ _ _ _ _ _ _ _ _ G_instruction_at (hmo hr) (lj AAm 5 rfl) (@AAa _ _ _ _ _ (pV 0 AAm 1 nms0 14 rfl rfl rfl) (@AAa _ _ _ _ _ (pV 1 AAm 2 nms0 16 rfl rfl rfl) AAi rfl) rfl) (nj nms5 10 rfl).1 rfl rfl) rfl (.inl rfl)) (@AAf _ _ _ _ _ (@AEn _ _ _ _ _ _ _ _ (@A2p _ _ _ _ (@AJ0 _ _ _ (@ABy _ _ _ _ _ _ _ _ _ _ G_is_first_half (hmo hr) (lj AAm 7 rfl) (@AAa _ _ _ _ _ (pV 3 AAm 3 nms1 5 rfl rfl rfl) AAi rfl) (nj nms2 23 rfl).1 rfl rfl) (by intro _; rfl))) (@AAg _ _ _ (@A8f _ _ _ _ _ _ _ _ _ (BAi hr) (pV 2 AAm 4 nms5 7 rfl rfl rfl) (pV 3 AAm 3 nms1 5 rfl rfl rfl) (pV 4 AAm 6 nms4 20 rfl rfl rfl) rfl)) ABf) (@AAg _ _ _ (@AAw _ _ _ _ (pV 4 AAm 6 nms4 20 rfl rfl rfl))))))), ?_⟩
  refine AGj (APf (v := vN (half m p)) (AAe (AAc rfl) (AAe (AAc rfl) AAs)) fun Q q => ⟨a, m, p, rfl, hm, hb, by omega, q⟩) ?_
  have hh := half_lt hb p
  cases e : valV (knK ks) (.inl ((half m p : Nat) : Int)) with
  | some v =>
    obtain ⟨x, hx, h1, rfl⟩ := BCf e
    have g : DGet H kd (vN (half m p)) (some (.ref x.2)) := .inl ⟨_, .inl ((half m p : Nat) : Int), .inl kn.at_, rfl, e.symm⟩
    refine AQ2 (p := True) (by exact pu_b (fun Q q => AAc (i := 3) rfl _ (AAc (i := 2) rfl _ ⟨kd, _, rfl, g, q⟩))) (fun _ => ?_) (fun z => absurd trivial z)
    have hi := (kn.ok x hx).2 (if p + 4 ≤ 65536 then half m (p + 2) else 0)
    rw [h1] at hi
    exact AOr (A0v (AAc rfl) (AAc rfl) g) (k x.2 H ks (fun _ _ h _ => h) kn hi)
  | none =>
    have g : DGet H kd (vN (half m p)) none := .inl ⟨_, .inl ((half m p : Nat) : Int), .inl kn.at_, rfl, e.symm⟩
    refine AQ2 (p := False) (by exact pu_b (fun Q q => AAc (i := 3) rfl _ (AAc (i := 2) rfl _ ⟨kd, _, rfl, g, q⟩))) (fun z => z.elim) (fun _ => ?_)
    refine ARa (AAe (AAc rfl) (AAe (AAc rfl) AAs)) ⟨a, m, p, rfl, hm, hb, hl, hp, fun q H1 s1 hi hn => ?_⟩
    have kn1 : Kn K H1 kd ks := ⟨s1 _ _ kn.at_, kn.nd, fun x hx => ⟨(kn.ok x hx).1, fun nx => ((kn.ok x hx).2 nx).same s1⟩⟩
    refine AQ2 (p := ¬ half m p / 2048 = 30) (by exact AZu (BEf (pu_b (APf (v := .bl (decide (half m p / 2048 = 30))) (AAe (v := vN (half m p)) (AAc rfl) AAs) fun Q q => ⟨_, rfl, q⟩))) decide_not.symm) (fun c => ?_) (fun c => ?_)
    · refine AAc (i := 4) rfl _ (AAc (i := 2) rfl _ (AAc (i := 3) rfl _ ⟨kd, _, rfl, .inl ⟨_, .inl ((half m p : Nat) : Int), kn1.at_, rfl, kn1.len, rfl⟩, ?_⟩))
      exact ⟨_, rfl, k q _ _ (fun b o h1 h2 => by rw [ABi h2]; exact s1 _ _ h1) (kn1.put e hh (hn c)) (hi.keep (AVj kn1.at_))⟩
    · exact ⟨_, rfl, k q H1 ks (fun b o h1 _ => s1 _ _ h1) kn1 hi⟩
end
end Chip
namespace Chip
open PySem L2 LX
section
variable {K : Frag} {H : Hp} {M : Mx} {pc : Nat}
theorem A7h (k rd rm n : Nat) : (abI (.shiftImm k rd rm n)).i = .inl ((if k = 0 ∧ n = 0 then 0 else if n = 0 then 32 else n : Nat) : Int) := by
  show (if k = 0 ∧ n = 0 then _ else _ : Ab).i = _
  by_cases c : k = 0 ∧ n = 0
  · rw [if_pos c, if_pos c]; rfl
  · rw [if_neg c, if_neg c]
theorem adr_i (sp : Bool) (rd k : Nat) : (abI (.adr sp rd k)).i = .inl ((4 * k : Nat) : Int) := by cases sp <;> rfl
theorem link (g : Good M pc) {i : Sd12.Ins} (hw : Wf i) (hl : Sd12.long i = true → pc + 4 ≤ 65536) {p : Addr} (hI : AM6 K H p (abI i)) : ∃ iv po, SqT K H p [.str (abI i).name, (abI i).d, (abI i).n, (abI i).m, iv, .ref po] ∧ Lk K H M pc (abI i) iv (Sd12.step (stOf M pc) i) := by
  obtain ⟨iv, po, h1, _, h3⟩ := hI
  refine ⟨iv, po, h1, ?_⟩
  cases i with
  | shiftImm k rd rm n => rw [A7h] at h3; subst h3; exact A9l g hw
  | addReg sub rd rn rm => exact A3y g hw
  | addImm3 sub rd rn k => subst h3; exact A2y g hw
  | imm8 op rd k => subst h3; exact BCg g hw
  | alu op rd rm => exact l_alu g hw
  | high op rd rm => exact BDb g hw
  | branchReg l rm => exact BDj g hw
  | literal rt k => subst h3; exact l_lit g hw
  | memReg op rt rn rm => exact BBn g hw
  | memImm op rt rn k => subst h3; exact BBu g hw
  | adr sp rd k => rw [adr_i] at h3; subst h3; exact l_adr g hw
  | spMove sub k => subst h3; exact l_spm g hw
  | extend op rd rm => exact l_ext g hw
  | reverse op rd rm => exact l_rev g hw
  | push l => obtain ⟨q, rfl, hT⟩ := h3; exact BA6 g hw hT
  | pop l => obtain ⟨q, rfl, hT⟩ := h3; exact l_pop g hw hT
  | many ld rn l => obtain ⟨q, rfl, hT⟩ := h3; exact BAy g hw hT
  | cond c off => subst h3; exact BCv g hw
  | branch off => subst h3; exact l_b g hw
  | link off => subst h3; exact BBi g hw
  | call k => subst h3; exact BA2 g hw
  | halt_ k => subst h3; exact BC5 g hw
  | nothing l => exact l_nop g hl
theorem AUn {m : List Nat} (hb : ∀ x ∈ m, x < 256) {p : Nat} {i : Sd12.Ins} (e : AQv m p = some i) (hl : Sd12.long i = true) : p + 4 ≤ 65536 := by
  refine Nat.le_of_not_lt fun z => ?_
  unfold AQv at e
  have hc := (AQ8 (half_lt hb p) i e).2 hl
  rw [if_neg (Nat.not_le_of_lt z), AJf hc, if_neg (by decide), if_neg (fun z => absurd z.2 (by decide))] at e
  cases e
noncomputable def Res1 (M M' : Mx) (pc : Nat) : Option Sd12.Ins → Prop
  | none => M' = { M with en := 1 }
  | some i => Res M M' pc (Sd12.step (stOf M pc) i)
theorem BBo (g : Good M pc) {p : Addr} (hI : AM6 K H p (abOf (AQv M.mem pc))) {k : V → Mx → Prop} (q : ∀ M', Res1 M M' pc (AQv M.mem pc) → k .non M') : BEg K H M [.ref p] k := by
  cases e : AQv M.mem pc with
  | none =>
    rw [e] at hI q
    obtain ⟨iv, po, h1, _, _⟩ := hI
    exact ⟨p, abN, iv, po, iv, 52, _, rfl, h1, ALw, AHf 52 (by decide), rfl, ⟨.non, .non, iv, rfl, q _ rfl⟩⟩
  | some i =>
    rw [e] at hI q
    obtain ⟨iv, po, h1, sec, j, R, h2, h3, h4, f⟩ := link g (AQ8 (half_lt g.byte pc) i e).1 (fun z => AUn g.byte e z) hI
    exact ⟨p, abI i, iv, po, sec, j, R, rfl, h1, h2, h3, h4, f (fun M' => k .non M') q⟩
end
theorem A4k {c : TT} {tb : TS} {D : Ends} {σ : L2.St} {H : Hp} (Pv : Nat → Bool → L2.St → Hp → Prop) {m0 : Nat} {b0 : Bool} (h0 : Pv m0 b0 σ H) (hc : ∀ m b σ H, Pv m b σ H → Pure c σ H b)
    (hs : ∀ m σ H, Pv m true σ H → tb { D with nx := fun σ' H' => ∃ m' b', m' < m ∧ Pv m' b' σ' H', ct := fun σ' H' => ∃ m' b', m' < m ∧ Pv m' b' σ' H', bk := D.nx } σ H) (hd : ∀ m σ H, Pv m false σ H → D.nx σ H) : A6p c tb D σ H := by
  refine ⟨fun m σ H => ∃ b, Pv m b σ H, ⟨m0, b0, h0⟩, ?_⟩
  rintro m σ H ⟨b, p⟩
  refine hc m b σ H p _ ?_
  cases b with
  | true => exact iteT ⟨_, fun σ' H' h => (by obtain ⟨m', b', l, p'⟩ := h; exact ⟨m', l, b', p'⟩), hs m σ H p⟩
  | false => exact iteF (hd m σ H p)
section
variable {K : Frag} {C m : Addr} {B : Ad} {M : Mx} {H H' : Hp} {kd : Addr} {ks : List (Nat × Addr)}
theorem Kn.ne (k : Kn K H kd ks) (hM : MAt C H m B M) : kd ≠ m ∧ kd ≠ B.ra ∧ kd ≠ B.ma := ⟨APe k.at_ hM.ins fun z => (by cases z), APe k.at_ hM.regs fun z => (by cases z), APe k.at_ hM.mem fun z => (by cases z)⟩
theorem MAt.chgK (hM : MAt C H m B M) (k : Kn K H kd ks) (hk : kd ≠ B.ba) (c : ChgK kd H H') : MAt C H' m B M := by
  obtain ⟨a1, a2, a3⟩ := k.ne hM
  exact { hM with ins := c _ _ hM.ins a1.symm, regs := c _ _ hM.regs a2.symm, mem := c _ _ hM.mem a3.symm, bb := c _ _ hM.bb hk.symm }
theorem Kn.chg (k : Kn K H kd ks) (hM : MAt C H m B M) (hk : kd ≠ B.ba) (c : Chg B m H H') : Kn K H' kd ks := by
  obtain ⟨a1, a2, a3⟩ := k.ne hM
  exact k.keep (AQl hM c) (c _ _ k.at_ a1 a2 a3 hk)
theorem AUr {H0 : Hp} (c : Chg B m H0 H) (h : H0 kd = none) (d : ChgK kd H H') : Chg B m H0 H' := fun b o e h1 h2 h3 h4 => d b o (c b o e h1 h2 h3 h4) fun z => by
  rw [z, h] at e
  cases e
variable {σ : L2.St} {ta ti tv : TE} {u : TS} {D : Ends} {x n : Nat}
theorem BD6 {Q : L2.St → Hp → Prop} (hM : MAt C H m B M) (ha : Is ta σ H (.ref B.ra)) (hi : Is ti σ H (vN n)) (hn : n < 16) (hx : x < 2 ^ 32) (q : ∀ H', Chg B m H H' → MAt C H' m B (M.set n x) → Q σ H') : gSub ta ti A3e (vN x) σ H Q :=
  ha _ (hi _ ⟨B.ra, _, _, n, rfl, rfl, hM.regs, A4p (by rw [List.length_map, hM.len]; exact hn), by
    rw [← List.map_set]
    exact q _ A9i (hM.reg hx)⟩)
theorem BD9 (hM : MAt C H m B M) (hv : Is tv σ H (vN x)) (ha : Is ta σ H (.ref B.ra)) (hi : Is ti σ H (vN n)) (hn : n < 16) (hx : x < 2 ^ 32) (q : ∀ H', Chg B m H H' → MAt C H' m B (M.set n x) → u D σ H') : tSeq (tAsg tv (gSub ta ti A3e)) u D σ H := hv _ (BD6 hM ha hi hn hx q)
end
noncomputable def Head (F : Sd12.St × Nat × Sd12.Why) (n done : Nat) (M : Mx) : Prop := done ≤ n ∧
  ((M.en = 0 ∧ rg M 15 < 2 ^ 32 ∧ rg M 15 % 2 = 0 ∧ Sd12.run (n - done) done (stOf M (rg M 15)) = F) ∨ (M.en ≠ 0 ∧ F.1 = stOf M (rg M 15) ∧ F.2.1 = done ∧ M.en = F.2.2.1 + 256 * F.2.2.2))
theorem Head.fin {F : Sd12.St × Nat × Sd12.Why} {n done : Nat} {M : Mx} (h : Head F n done M) (e : ¬ (done < n ∧ M.en = 0)) : F.1 = stOf M (rg M 15) ∧ F.2.1 = done ∧ M.en = F.2.2.1 + 256 * F.2.2.2 := by
  obtain ⟨hd, h | h⟩ := h
  · obtain ⟨e0, _, _, e3⟩ := h
    have z : n - done = 0 := Nat.sub_eq_zero_of_le (Nat.le_of_not_lt fun q => e ⟨q, e0⟩)
    rw [z] at e3
    rw [← e3]
    exact ⟨rfl, rfl, e0⟩
  · exact h.2
theorem ARn {M : Mx} (p x : Nat) : stOf (M.set 15 x) p = stOf M p := by
  unfold stOf Mx.set
  simp only
  rw [List.set_set]
theorem AMg {M : Mx} {x : Nat} (h : M.r.length = 16) : rg (M.set 15 x) 15 = x := AHq (by rw [h]; decide)
theorem Head.step {F : Sd12.St × Nat × Sd12.Why} {n done : Nat} {M M2 M' : Mx} {pc : Nat} (hd : done < n) (g : Good M2 pc) (es : stOf M2 pc = stOf M (rg M 15)) (em : M2.mem = M.mem) (e15 : rg M 15 = pc) (hF : Sd12.run (n - done) done (stOf M (rg M 15)) = F) (hl : M'.r.length = 16) (h : Res1 M2 M' pc (AQv M2.mem pc)) :
    if M'.en = 0 ∨ M'.en % 256 = 4 then M'.on < 2 ^ 32 ∧ M'.m0 = M2.m0 ∧ Head F n (done + 1) (M'.set 15 M'.on) else M'.m0 = M2.m0 ∧ Head F n done (M'.set 15 pc) := by
  have hn : n - done = (n - (done + 1)) + 1 := by omega
  rw [← es, hn] at hF
  have hp := g.pc
  have eh : Sd12.here (stOf M2 pc) = AQv M2.mem pc := by
    unfold Sd12.here AQv
    rw [g.s_pc, BAg, BAg]
    rfl
  have c1 : ¬ Sd12.SIZE < (stOf M2 pc).pc + 2 := by
    rw [g.s_pc]
    exact Nat.not_lt_of_le hp
  have er : Sd12.run (n - (done + 1) + 1) done (stOf M2 pc) = match AQv M2.mem pc with
      | none => (stOf M2 pc, done, (1, 0))
      | some i => match Sd12.step (stOf M2 pc) i with
        | .on t => Sd12.run (n - (done + 1)) (done + 1) t
        | .fault => (stOf M2 pc, done, (2, 0))
        | .called k t => (t, done + 1, (4, k))
        | .stopped k => (stOf M2 pc, done, (3, k)) := by
    show (if Sd12.SIZE < (stOf M2 pc).pc + 2 then _ else _) = _
    rw [if_neg c1, eh]
    cases e : AQv M2.mem pc with
    | none => rfl
    | some i =>
      have no : ¬ (Sd12.long i = true ∧ Sd12.SIZE < (stOf M2 pc).pc + 4) := fun z => by
        rw [g.s_pc] at z
        exact Nat.not_lt_of_le (AUn g.byte e z.1) z.2
      simp only [if_neg no]
      rfl
  rw [er] at hF
  have stay : ∀ (w0 w1 : Nat), (stOf M2 pc, done, (w0, w1)) = F → M'.en ≠ 0 → stOf M' pc = stOf M2 pc → M'.en = w0 + 256 * w1 → Head F n done (M'.set 15 pc) := fun w0 w1 q1 q2 q3 q4 => by
    subst q1
    refine ⟨Nat.le_of_lt hd, .inr ⟨q2, ?_, rfl, q4⟩⟩
    rw [AMg hl, ARn]
    exact q3.symm
  cases e : AQv M2.mem pc with
  | none =>
    rw [e] at h hF
    have h : M' = { M2 with en := 1 } := h
    have e1 : M'.en = 1 := by rw [h]
    rw [if_neg (by rw [e1]; decide)]
    exact ⟨by rw [h], stay 1 0 hF (by rw [e1]; decide) (by rw [h]; rfl) e1⟩
  | some i =>
    rw [e] at h hF
    have h : Res M2 M' pc (Sd12.step (stOf M2 pc) i) := h
    have hF : (match Sd12.step (stOf M2 pc) i with
        | .on t => Sd12.run (n - (done + 1)) (done + 1) t
        | .fault => (stOf M2 pc, done, (2, 0))
        | .called k t => (t, done + 1, (4, k))
        | .stopped k => (stOf M2 pc, done, (3, k))) = F := hF
    cases eo : Sd12.step (stOf M2 pc) i with
    | on t =>
      rw [eo] at h hF
      obtain ⟨h1, h2, h3, h4, h5⟩ := h
      rw [if_pos (.inl h1)]
      refine ⟨h3, h5, hd, .inl ⟨h1, ?_, ?_, ?_⟩⟩
      · rw [AMg hl]; exact h3
      · rw [AMg hl]; exact h4
      · rw [AMg hl, ARn, ← h2]; exact hF
    | fault =>
      rw [eo] at h hF
      obtain ⟨h1, h2, h3⟩ := h
      rw [if_neg (by rw [h1]; decide)]
      exact ⟨h3, stay 2 0 hF (by rw [h1]; decide) h2 h1⟩
    | called k t =>
      rw [eo] at h hF
      obtain ⟨h0, h1, h2, h3, h4, h5⟩ := h
      rw [if_pos (.inr (by rw [h1]; omega))]
      subst hF
      refine ⟨h3, h5, hd, .inr ⟨by rw [show (M'.set 15 M'.on).en = M'.en from rfl, h1]; omega, ?_, rfl, h1⟩⟩
      rw [AMg hl, ARn]
      exact h2
    | stopped k =>
      rw [eo] at h hF
      obtain ⟨h0, h1, h2, h3⟩ := h
      rw [if_neg (by rw [h1]; omega)]
      exact ⟨h3, stay 3 k hF (by rw [h1]; omega) h2 h1⟩
end Chip
namespace Chip
open PySem L2 LX
section
variable {P : Program} {w : World} {K : Frag} {mg : Str → Option Value} {base : Heap} {C : Addr}
noncomputable def A6x (M : Mx) (us : List V) (k : V → Mx → Prop) : Prop := ∃ n : Nat, us = [vN n] ∧ M.en = 0 ∧ rg M 15 % 2 = 0 ∧
  ∀ M' : Mx, (Sd12.run n 0 (stOf M (rg M 15))).1 = stOf M' (rg M' 15) → M'.en = (Sd12.run n 0 (stOf M (rg M 15))).2.2.1 + 256 * (Sd12.run n 0 (stOf M (rg M 15))).2.2.2 → M'.m0 = M.m0 → k (vN (Sd12.run n 0 (stOf M (rg M 15))).2.1) M'
theorem ATv {p q : Prop} [Decidable p] [Decidable q] : (decide p && decide q) = decide (p ∧ q) := (Bool.decide_and p q).symm
theorem A7s {p q : Prop} [Decidable p] [Decidable q] : (decide p || decide q) = decide (p ∨ q) := (Bool.decide_or p q).symm
theorem A6h {p : Prop} [Decidable p] {tc : TT} {t u : TS} {D : Ends} {σ : L2.St} {H : Hp} (hc : Pure tc σ H (decide p)) (h0 : p → t D σ H) (h1 : ¬ p → u D σ H) : tIfS tc t u D σ H := ifsP hc h0 h1
theorem ASf (T : Txt K mg) (cl : Cl K C) : Fn P w K mg base "do_steps" 6 ["machine", "n"] (spM C 1 A6x) := by
  have G_instruction_now := AJn (P := P) (w := w) (base := base) T
  have G_do_instruction := AJ2 (P := P) (w := w) (base := base) T cl
  refine m_fn T.AXg AEc (fun _ _ _ _ _ _ => ln2 (fun _ _ => rfl)) rfl (fun f cdv A outer s H m B M us Q E hr hM h => ?_)
  obtain ⟨n, rfl, he, hev, k⟩ := h
  refine ⟨_, (@AAf _ _ _ _ _ (@ABk _ _ 2 _ _ _ _ AEc.nd rfl (Or.inl (lj AAj 1 rfl)) (@AAo _ _ _ _ _ (pV 0 AAj 0 nms0 17 rfl rfl rfl) rfl) rfl (.inl rfl)) (@AAf _ _ _ _ _ (@ABk _ _ 3 _ _ _ _ AEc.nd rfl (Or.inl (lj AAj 2 rfl)) AW6 rfl (.inl rfl)) (@AAf _ _ _ _ _ (@ABk _ _ 4 _ _ _ _ AEc.nd rfl (Or.inl (lj AAj 3 rfl)) (pn 0) rfl (.inl rfl)) (@AAf _ _ _ _ _ (@A4h _ _ _ _ _ _ PassesOwn.never (@PW.pt _ _ _ (@AOs _ _ _ _ _ _ _ (@AAy _ _ _ _ _ _ _ _ BAe (pV 4 AAj 3 nms5 2 rfl rfl rfl) (pV 1 AAj 4 nms1 12 rfl rfl rfl) rfl) (@AKg _ _ _ _ (@AAy _ _ _ _ _ _ _ _ AEl (@AAo _ _ _ _ _ (pV 0 AAj 0 nms0 17 rfl rfl rfl) rfl) (@AAt _ _ _ _ T.c_STEPS_DONE (lj AAj 5 rfl) (nj nms0 8 rfl).1) rfl)))) (@AAf _ _ _ _ _ (@ABk _ _ 5 _ _ _ _ AEc.nd rfl (Or.inl (lj AAj 7 rfl)) (@ACz _ _ _ _ _ _ _ AAz (pV 2 AAj 1 nms5 5 rfl rfl rfl) (@AAt _ _ _ _ T.c_PC (lj AAj 6 rfl) (nj nms0 9 rfl).1) (fun _ _ => rfl)) rfl (.inl rfl)) (@AAf _ _ _ _ _ (@AEn _ _ _ _ _ _ _ _ (@AAy _ _ _ _ _ _ _ _ A6m (@AAl _ _ _ _ _ _ _ _ AHo (pV 5 AAj 7 nms0 16 rfl rfl rfl) (pn 2)) (@AAt _ _ _ _ T.c_SIZE (lj AAj 8 rfl) (nj nms0 13 rfl).1) rfl) (@AAf _ _ _ _ _ (@ACs _ _ _ _ _ _ _ _ (pV 0 AAj 0 nms0 17 rfl rfl rfl) (@AAt _ _ _ _ T.c_BEYOND_MEMORY (lj AAj 9 rfl) (nj nms5 6 rfl).1) rfl) (@AAg _ _ _ (@AAw _ _ _ _ (pV 4 AAj 3 nms5 2 rfl rfl rfl)))) ABf) (@AAf _ _ _ _ _ (@ABk _ _ 6 _ _ _ _ AEc.nd rfl (Or.inl (lj AAj 11 rfl)) (@ABy _ _ _ _ _ _ _ _ _ _ G_instruction_now (hmo hr) (lj AAj 10 rfl) (@AAa _ _ _ _ _ (@AAo _ _ _ _ _ (pV 0 AAj 0 nms0 17 rfl rfl rfl) rfl) (@AAa _ _ _ _ _ (pV 5 AAj 7 nms0 16 rfl rfl rfl) (@AAa _ _ _ _ _ (pV 3 AAj 2 nms5 7 rfl rfl rfl) AAi rfl) rfl) rfl) (nj nms5 8 rfl).1 rfl rfl) rfl (.inl rfl)) (@AAf _ _ _ _ _ (@ACn _ _ _ _ _ _ (@AAl _ _ _ _ _ _ _ _ AHo (pV 5 AAj 7 nms0 16 rfl rfl rfl) (pn 4)) (@ACk _ _ _ _ _ _ _ (pV 2 AAj 1 nms5 5 rfl rfl rfl) (@AAt _ _ _ _ T.c_PC (lj AAj 6 rfl) (nj nms0 9 rfl).1) set_list (by intros; rfl)) rfl rfl rfl) (@AAf _ _ _ _ _ (@ACs _ _ _ _ _ _ _ _ (pV 0 AAj 0 nms0 17 rfl rfl rfl) (@AAl _ _ _ _ _ _ _ _ AHo (pV 5 AAj 7 nms0 16 rfl rfl rfl) (pn 2)) rfl) (@AAf _ _ _ _ _ (@ACe _ _ _ _ (@ABy _ _ _ _ _ _ _ _ _ _ G_do_instruction (hmo hr) (lj AAj 12 rfl) (@AAa _ _ _ _ _ (pV 0 AAj 0 nms0 17 rfl rfl rfl) (@AAa _ _ _ _ _ (pV 6 AAj 11 nms4 20 rfl rfl rfl) AAi rfl) rfl) (nj nms5 9 rfl).1 rfl rfl) rfl) (@AAg _ _ _ (@AEn _ _ _ _ _ _ _ _ (@PW.pt _ _ _ (@A56 _ _ _ _ _ _ _ (@AAy _ _ _ _ _ _ _ _ AEl (@AAo _ _ _ _ _ (pV 0 AAj 0 nms0 17 rfl rfl rfl) rfl) (@AAt _ _ _ _ T.c_STEPS_DONE (lj AAj 5 rfl) (nj nms0 8 rfl).1) rfl) (@AU0 _ _ _ _ (@AAy _ _ _ _ _ _ _ _ AEl (@AAl _ _ _ _ _ _ _ _ A2j (@AAo _ _ _ _ _ (pV 0 AAj 0 nms0 17 rfl rfl rfl) rfl) (pn 256)) (@AAt _ _ _ _ T.c_AT_SVC (lj AAj 13 rfl) (nj nms4 18 rfl).1) rfl)))) (@AAf _ _ _ _ _ (@ACn _ _ _ _ _ _ (@AAo _ _ _ _ _ (pV 0 AAj 0 nms0 17 rfl rfl rfl) rfl) (@ACk _ _ _ _ _ _ _ (pV 2 AAj 1 nms5 5 rfl rfl rfl) (@AAt _ _ _ _ T.c_PC (lj AAj 6 rfl) (nj nms0 9 rfl).1) set_list (by intros; rfl)) rfl rfl rfl) (@AAg _ _ _ (@BDp _ _ 4 _ _ _ _ _ _ AEc.nd rfl (Or.inl (lj AAj 3 rfl)) (pn 1) BAt (.inl rfl)))) (@AAg _ _ _ (@ACn _ _ _ _ _ _ (pV 5 AAj 7 nms0 16 rfl rfl rfl) (@ACk _ _ _ _ _ _ _ (pV 2 AAj 1 nms5 5 rfl rfl rfl) (@AAt _ _ _ _ T.c_PC (lj AAj 6 rfl) (nj nms0 9 rfl).1) set_list (by intros; rfl)) rfl rfl rfl))))))))))) (@AAg _ _ _ (@AAw _ _ _ _ (pV 4 AAj 3 nms5 2 rfl rfl rfl))))))), ?_⟩
  generalize hF : Sd12.run n 0 (stOf M (rg M 15)) = F at k
  refine AGj (ADg cl hM cl.regs ARx (AAc rfl)) ?_
  refine fun kd hkd => ?_
  have hb0 : kd ≠ B.ba := fun z => by rw [z, hM.bb] at hkd; cases hkd
  have cK0 : ChgK kd H (upd H kd (.dK [])) := fun b o e ne => by rw [ABi ne]; exact e
  have kn0 : Kn K (upd H kd (.dK [])) kd [] := ⟨AAv, List.nodup_nil, fun p hp => (List.not_mem_nil hp).elim⟩
  have hM0 : MAt C (upd H kd (.dK [])) m B M := by
    have c0 : Same H (upd H kd (.dK [])) := ABm hkd
    exact { hM with ins := c0 _ _ hM.ins, regs := c0 _ _ hM.regs, mem := c0 _ _ hM.mem, bb := c0 _ _ hM.bb }
  have cg0 : Chg B m H (upd H kd (.dK [])) := AUr Chg.refl hkd cK0
  refine AGj (v := vN 0) is_c ?_
  refine A4k (fun mm b σ H' => ∃ (done : Nat) (M' : Mx) (ks : List (Nat × Addr)) (o5 o6 : Option V), σ = [some (.ref m), some (vN n), some (.ref B.ra), some (.ref kd), some (vN done), o5, o6] ∧ b = decide (done < n ∧ M'.en = 0) ∧ mm = 2 * (n - done) + (if M'.en = 0 then 1 else 0) ∧ Chg B m H H' ∧ MAt C H' m B M' ∧ Kn K H' kd ks ∧ M'.m0 = M.m0 ∧ Head F n done M')
    (m0 := 2 * (n - 0) + (if M.en = 0 then 1 else 0)) (b0 := decide (0 < n ∧ M.en = 0)) ⟨0, M, [], none, none, rfl, rfl, rfl, cg0, hM0, kn0, rfl, Nat.zero_le _, .inl ⟨he, ACp hM 15, hev, hF⟩⟩ (fun mm b σ H' hp => ?_) (fun mm σ H' hp => ?_) (fun mm σ H' hp => ?_)
  · obtain ⟨done, M', ks, o5, o6, rfl, rfl, _, _, hM', _⟩ := hp
    exact AZu (A5z (ABg (A4f (x := done) (y := n) (AAc rfl) (AAc rfl))) (ABg (ADa (ADg cl hM' cl.end_ AP2 (AAc rfl)) is_c))) ATv
  · obtain ⟨done, M', ks, o5, o6, rfl, hb, rfl, c1, hM1, kn1, hm0, hH⟩ := hp
    obtain ⟨hdn, hen⟩ := of_decide_eq_true hb.symm
    obtain ⟨_, hH | hH⟩ := hH
    · obtain ⟨_, h32, hev1, hrun⟩ := hH
      refine AGj (v := vN (rg M' 15)) (AKr (AAc rfl) is_c (.of hM1.regs) (A8t hM1 (by decide))) ?_
      refine AQ2 (p := 65536 < rg M' 15 + 2) (ABg (A3g (is_n (x := rg M' 15) (AAc rfl) is_c) is_c)) (fun e => ?_) (fun e => ?_)
      · refine A7v (k := 5) cl hM1 is_c (AAc rfl) fun H2 c2 hM2 => ?_
        have er : Sd12.run (n - done) done (stOf M' (rg M' 15)) = (stOf M' (rg M' 15), done, (5, 0)) := by
          rw [show n - done = (n - (done + 1)) + 1 from by omega]
          have ep : (stOf M' (rg M' 15)).pc = rg M' 15 := AHq (by rw [hM1.len]; decide)
          show (if Sd12.SIZE < (stOf M' (rg M' 15)).pc + 2 then _ else _) = _
          rw [ep, if_pos (show Sd12.SIZE < rg M' 15 + 2 from e)]
        rw [er] at hrun
        subst hrun
        exact ⟨_, rfl, k { M' with en := 5 } rfl rfl hm0 H2 (c1.trans c2) hM2⟩
      · have hp2 : rg M' 15 + 2 ≤ 65536 := Nat.le_of_not_lt e
        generalize hpc : rg M' 15 = pc at hp2 hev1 h32
        refine ARa (AAe (ADg cl hM1 cl.memory AEx (AAc rfl)) (AAe (v := vN pc) (AAc (by rw [← hpc]; rfl)) (AAe (AAc rfl) AAs))) ⟨B.ma, M'.mem, pc, kd, ks, rfl, .of hM1.mem, hM1.byte, hM1.size, hp2, kn1, fun q H2 ks2 cK kn2 hi => ?_⟩
        have hM2 := hM1.chgK kn1 hb0 cK
        have c2 := AUr c1 hkd cK
        refine BD9 (n := 15) (x := pc + 4) hM2 (by exact is_n (x := pc) (y := 4) (AAc (by rw [← hpc]; rfl)) is_c) (AAc rfl) is_c (by decide) (by omega) fun H3 c3 hM3 => ?_
        refine sq_on (k := pc + 2) cl hM3 (by exact is_n (x := pc) (y := 2) (AAc (by rw [← hpc]; rfl)) is_c) (AAc rfl) fun H4 c4 hM4 => ?_
        have kn3 := kn2.chg hM2 hb0 c3
        have kn4 := kn3.chg hM3 hb0 c4
        have hi4 := (hi.keep (AQl hM2 c3)).keep (AQl hM3 c4)
        have es : stOf { M'.set 15 (pc + 4) with on := pc + 2 } pc = stOf M' (rg M' 15) := by rw [hpc]; exact ARn pc (pc + 4)
        have g : Good { M'.set 15 (pc + 4) with on := pc + 2 } pc := ⟨AMg hM1.len, rfl, hen, hev1, hp2, hM4.len, hM4.word, hM4.byte, hM4.size⟩
        refine ARj (AAe (AAc rfl) (AAe (AAc rfl) AAs)) ⟨m, B, _, _, rfl, rfl, hM4, BBo g hi4 fun M5 hR => ?_⟩
        intro H5 c5 hM5
        have kn5 := kn4.chg hM4 hb0 c5
        have hS := Head.step (F := F) (n := n) (done := done) hdn g es rfl hpc hrun hM5.len hR
        have cc := ((c2.trans c3).trans c4).trans c5
        refine A6h (p := M5.en = 0 ∨ M5.en % 256 = 4) (by exact AZu (p_or (ABg (ADa (ADg cl hM5 cl.end_ AP2 (AAc rfl)) is_c)) (ABg (ADa (AIw (ADg cl hM5 cl.end_ AP2 (AAc rfl)) is_c (by show 0 < 256; decide)) is_c))) A7s) (fun c => ?_) (fun c => ?_)
        · rw [if_pos c] at hS
          obtain ⟨hon, hm5, hH5⟩ := hS
          refine BD9 (n := 15) (x := M5.on) hM5 (ADg cl hM5 cl.onward AR1 (AAc rfl)) (AAc rfl) is_c (by decide) hon fun H6 c6 hM6 => ?_
          refine ⟨_, rfl, _, _, rfl, rfl, 2 * (n - (done + 1)) + (if (M5.set 15 M5.on).en = 0 then 1 else 0), _, ?_, done + 1, M5.set 15 M5.on, ks2, _, _, rfl, rfl, rfl, cc.trans c6, hM6, kn5.chg hM5 hb0 c6, hm5.trans hm0, hH5⟩
          have : (if (M5.set 15 M5.on).en = 0 then 1 else 0) ≤ 1 := by split <;> decide
          rw [if_pos hen]
          omega
        · rw [if_neg c] at hS
          obtain ⟨hm5, hH5⟩ := hS
          refine AAc (i := 5) (v := vN pc) (by rw [← hpc]; rfl) _ (BD6 (n := 15) (x := pc) hM5 (AAc rfl) is_c (by decide) h32 fun H6 c6 hM6 => ?_)
          refine ⟨2 * (n - done) + (if (M5.set 15 pc).en = 0 then 1 else 0), _, ?_, done, M5.set 15 pc, ks2, _, _, rfl, rfl, rfl, cc.trans c6, hM6, kn5.chg hM5 hb0 c6, hm5.trans hm0, hH5⟩
          rw [if_pos hen, if_neg (show ¬ (M5.set 15 pc).en = 0 from fun z => c (.inl z))]
          omega
    · exact absurd hen hH.1
  · obtain ⟨done, M', ks, o5, o6, rfl, hb, rfl, c1, hM1, kn1, hm0, hH⟩ := hp
    obtain ⟨f1, f2, f3⟩ := hH.fin (of_decide_eq_false hb.symm)
    subst f2
    exact ⟨_, rfl, k M' f1 f3 hm0 H' c1 hM1⟩
end
end Chip
namespace Chip
open PySem L2 LX
noncomputable def Ext (m : Addr) (H H' : Hp) : Prop := ∀ b o, H b = some o → b ≠ m → H' b = some o
theorem Ext.trans {m : Addr} {H H1 H2 : Hp} (a : Ext m H H1) (b : Ext m H1 H2) : Ext m H H2 := fun c o h n => b c o (a c o h n) n
theorem Ext.same {m : Addr} {H H1 : Hp} (a : Same H H1) : Ext m H H1 := fun c o h _ => a c o h
theorem BAn : ∀ i, i < 9 → (mks.take i).all (fun x => !(x == mks.getD i "")) = true ∧ mks.take i ++ [mks.getD i ""] = mks.take (i + 1) ∧ (mks.take i).length = i := by decide +kernel
section
variable {K : Frag} {C m dx : Addr} {H H' : Hp} {a : Addr} {xs vs : List V} {o : HO}
theorem AJw {fs : List (Str × V)} (hm : H m = some (.ins C dx fs)) (e : Ext m H H') (h : SqL K H a xs) : SqL K H' a xs := by
  rcases h with h | h
  · rcases h with h | ⟨o, h⟩
    · exact .inl (.inl (e _ _ h (APe h hm fun z => (by cases z))))
    · exact .inl (.inr ⟨o, e _ _ h (APe h hm fun z => (by cases z))⟩)
  · exact .inr h
variable {σ : L2.St} {ta tv : TE} {f : Str} {u : TS} {D : Ends} {v : V} {i : Nat}
theorem ARz (cl : Cl K C) (i : Nat) (hi : i < 9) (hI : H m = some (.ins C dx ((mks.take i).zip vs))) (hl : vs.length = i) (hf : f = mks.getD i "") (hn : AFl K C f) (ha : Is ta σ H (.ref m)) (q : ∀ H', Ext m H H' → H' m = some (.ins C dx ((mks.take (i + 1)).zip (vs ++ [v]))) → (∀ b, b ≠ m → H' b = H b) → D.nx σ H') :
    ta σ H fun x H2 => ∃ a C dx fs, x = .ref a ∧ H2 a = some (.ins C dx fs) ∧ Cls K C ∧ AFl K C f ∧ fs.length < 1000 ∧ D.nx σ (upd H2 a (.ins C dx (putF f v fs))) := by
  obtain ⟨h1, h2, h3⟩ := BAn i hi
  refine ha _ ⟨m, C, dx, _, rfl, hI, cl.cls, hn, ?_, ?_⟩
  · rw [List.length_zip, h3, hl, Nat.min_self]
    exact Nat.lt_trans hi (by decide)
  · rw [hf, A1f v h1 (by rw [h3, hl]), h2]
    exact q _ (fun b o e n => by rw [ABi n]; exact e) AAv fun b n => ABi n
theorem ASi (cl : Cl K C) (i : Nat) (hi : i < 9) (hI : H m = some (.ins C dx ((mks.take i).zip vs))) (hl : vs.length = i) (hf : f = mks.getD i "") (hn : AFl K C f) (hv : Is tv σ H v) (ha : Is ta σ H (.ref m)) (q : ∀ H', Ext m H H' → H' m = some (.ins C dx ((mks.take (i + 1)).zip (vs ++ [v]))) → (∀ b, b ≠ m → H' b = H b) → u D σ H') :
    tSeq (sFld K ta tv f) u D σ H := hv _ (ARz (D := { D with nx := u D }) cl i hi hI hl hf hn ha q)
end
noncomputable def stM (st mem : List Nat) : Mx := ⟨st.take 16, Sd12.bit (st.getD 16 0) 3, Sd12.bit (st.getD 16 0) 2, Sd12.bit (st.getD 16 0) 1, Sd12.bit (st.getD 16 0) 0, 0, (st.take 16).getD 15 0, mem, [], mem⟩
structure TxC (K : Frag) (mg : Str → Option Value) (C f : Addr) (fd : FuncData) : Prop where
  make : Mk K C f
  c : mg "Machine" = some (.ref C)
  fn : Fun K "__init__" "Machine.__init__" ASd f fd
noncomputable def A6q (K : Frag) (C : Addr) : Sp := fun vs H Q _ => ∃ (m dx sa pa da : Addr) (st ps ds : List Nat), vs = [.ref m, .ref sa, .ref pa, .ref da] ∧ H m = some (.ins C dx []) ∧ SqL K H sa (st.map vN) ∧ SqL K H pa (ps.map vN) ∧ SqL K H da (ds.map vN) ∧ st.length = 18 ∧ (∀ x ∈ st, x < 2 ^ 32) ∧ ps.length = ds.length ∧ (∀ p ∈ ps, p < 65536) ∧ (∀ d ∈ ds, d < 256) ∧
  ∀ B H', MAt C H' m B (stM st (memL ps ds)) → Q .non H'
theorem bit0N (x : Nat) : vN (x % 2) = vB (Sd12.bit x 0) := congrArg vN (by rw [← A00 x 0, Nat.pow_zero, Nat.div_one])
section
variable {P : Program} {w : World} {K : Frag} {mg : Str → Option Value} {base : Heap} {C fi : Addr} {fd : FuncData}
theorem cut16 (l : List Nat) (h : l.length = 18) : cutV (l.map vN) none (some ((16 : Nat) : Int)) = (l.take 16).map vN := by
  unfold cutV
  rw [List.length_map, h]
  show ((l.map vN).drop 0).take 16 = _
  rw [List.drop_zero, List.map_take]
section
variable {σ : L2.St} {H : Hp} {m dx sa pa da : Addr} {st ps ds : List Nat} {u : TS} {D : Ends} {vs : List V}
theorem A9a (cl : Cl K C) (e0 : σ[0]? = some (some (.ref m))) (e1 : σ[1]? = some (some (.ref sa))) (hm : H m = some (.ins C dx [])) (hs : SqL K H sa (st.map vN)) (hl : st.length = 18) (q : ∀ ra H', ra ≠ m → Ext m H H' → H' m = some (.ins C dx ((mks.take 1).zip [V.ref ra])) → H' ra = some (.lst ((st.take 16).map vN)) → u D σ H') :
    tSeq (sFld K (tVar 0) (tSl (rSlL K) (tVar 1) A1v (BEs (tC (.int ((16 : Nat) : Int))))) "regs") u D σ H := by
  refine ⟨_, e1, ((16 : Nat) : Int), rfl, sa, _, rfl, hs, fun ra hra => ?_⟩
  rw [cut16 st hl]
  have nm : ra ≠ m := fun z => by rw [z, hm] at hra; cases hra
  refine ARz (D := { D with nx := u D }) (vs := []) cl 0 (by decide) (by rw [ABi nm.symm]; exact hm) rfl rfl cl.regs (AAc e0) fun H' x1 x2 x3 => ?_
  exact q ra H' nm ((Ext.same (ABm hra)).trans x1) x2 (by rw [x3 ra nm, AAv])
theorem BBh (cl : Cl K C) (e0 : σ[0]? = some (some (.ref m))) (e2 : σ[2]? = some (some (.ref pa))) (e3 : σ[3]? = some (some (.ref da))) (hm : H m = some (.ins C dx ((mks.take 7).zip vs))) (hv : vs.length = 7) (hp : SqL K H pa (ps.map vN)) (hd : SqL K H da (ds.map vN)) (len : ps.length = ds.length) (hps : ∀ p ∈ ps, p < 65536)
    (q : ∀ ma H', ma ≠ m → H ma = none → Ext m H H' → H' m = some (.ins C dx ((mks.take 8).zip (vs ++ [V.ref ma]))) → H' ma = some (.lst ((memL ps ds).map vN)) → u D σ H') :
    tSeq (sFld K (tVar 0) (tFn (AKs K) (ABx (tVar 2) (ABx (tVar 3) tNil))) "memory") u D σ H := by
  refine AJv (AAe (AAc e2) (AAe (AAc e3) AAs)) ⟨pa, da, ps, ds, rfl, hp, hd, len, hps, fun ma H1 n1 s1 h1 => ?_⟩
  have nm : ma ≠ m := fun z => by rw [z, hm] at n1; cases n1
  refine ARz (D := { D with nx := u D }) cl 7 (by decide) (s1 _ _ hm) hv rfl cl.memory (AAc e0) fun H' x1 x2 x3 => ?_
  exact q ma H' nm n1 ((Ext.same s1).trans x1) x2 (by rw [x3 ma nm]; exact h1)
theorem BBv (cl : Cl K C) (e0 : σ[0]? = some (some (.ref m))) (hm : H m = some (.ins C dx ((mks.take 8).zip vs))) (hv : vs.length = 8) (q : ∀ ba H', ba ≠ m → H ba = none → Ext m H H' → H' m = some (.ins C dx ((mks.take 9).zip (vs ++ [V.ref ba]))) → H' ba = some (.dK []) → D.nx σ H') :
    sFld K (tVar 0) A7e "bytes_before" D σ H := by
  refine fun ba hba => ?_
  have nm : ba ≠ m := fun z => by rw [z, hm] at hba; cases hba
  refine ARz cl 8 (by decide) (by rw [ABi nm.symm]; exact hm) hv rfl cl.bytes_before (AAc e0) fun H' x1 x2 x3 => ?_
  exact q ba H' nm hba ((Ext.same (ABm hba)).trans x1) x2 (by rw [x3 ba nm, AAv])
end
theorem AYc {σ : L2.St} {H : Hp} {sa : Addr} {st : List Nat} (e1 : σ[1]? = some (some (.ref sa))) (hs : SqL K H sa (st.map vN)) (hl : st.length = 18) : Is (tOp (rIxL K) (tVar 1) (tC (.int ((16 : Nat) : Int)))) σ H (vN (st.getD 16 0)) := AKr (AAc e1) is_c hs (AOw (by rw [hl]; decide))
theorem A9e (T : Txt K mg) (cl : Cl K C) (TC : TxC K mg C fi fd) : FnOk P w K mg base CX0 2 fi fd ["self", "state", "places", "data"] (A6q K C) := by
  have G_memory_of := APw (P := P) (w := w) (base := base) T
  refine TC.fn.ok A6i (fun vs H Q E h => ?_) (fun cdv A outer s H vs Q E hr h => ?_)
  · obtain ⟨m, dx, sa, pa, da, st, ps, ds, rfl, _⟩ := h
    rfl
  obtain ⟨m, dx, sa, pa, da, st, ps, ds, rfl, hm, hs, hpa, hda, hl, hw, len, hps, hds, k⟩ := h
  refine ⟨_, (@AAf _ _ _ _ _ (@ACs _ _ _ _ _ _ _ _ (pV 0 ADm 0 nms0 6 rfl rfl rfl) (@A5c _ _ _ _ _ _ _ _ _ _ A7j (pV 1 ADm 1 nms0 7 rfl rfl rfl) A6b (@A8y _ _ _ (pn 16))) rfl) (@AAf _ _ _ _ _ (@ACs _ _ _ _ _ _ _ _ (pV 0 ADm 0 nms0 6 rfl rfl rfl) (@AAl _ _ _ _ _ _ _ _ ABt (@AAl _ _ _ _ _ _ _ _ AEj (@ACz _ _ _ _ _ _ _ AAz (pV 1 ADm 1 nms0 7 rfl rfl rfl) (pn 16) (fun _ _ => rfl)) (pn 3)) (pn 1)) rfl) (@AAf _ _ _ _ _ (@ACs _ _ _ _ _ _ _ _ (pV 0 ADm 0 nms0 6 rfl rfl rfl) (@AAl _ _ _ _ _ _ _ _ ABt (@AAl _ _ _ _ _ _ _ _ AEj (@ACz _ _ _ _ _ _ _ AAz (pV 1 ADm 1 nms0 7 rfl rfl rfl) (pn 16) (fun _ _ => rfl)) (pn 2)) (pn 1)) rfl) (@AAf _ _ _ _ _ (@ACs _ _ _ _ _ _ _ _ (pV 0 ADm 0 nms0 6 rfl rfl rfl) (@AAl _ _ _ _ _ _ _ _ ABt (@AAl _ _ _ _ _ _ _ _ AEj (@ACz _ _ _ _ _ _ _ AAz (pV 1 ADm 1 nms0 7 rfl rfl rfl) (pn 16) (fun _ _ => rfl)) (pn 1)) (pn 1)) rfl) (@AAf _ _ _ _ _ (@ACs _ _ _ _ _ _ _ _ (pV 0 ADm 0 nms0 6 rfl rfl rfl) (@AAl _ _ _ _ _ _ _ _ ABt (@ACz _ _ _ _ _ _ _ AAz (pV 1 ADm 1 nms0 7 rfl rfl rfl) (pn 16) (fun _ _ => rfl)) (pn 1)) rfl) (@AAf _ _ _ _ _ (@ACs _ _ _ _ _ _ _ _ (pV 0 ADm 0 nms0 6 rfl rfl rfl) (@AAt _ _ _ _ T.c_STEPS_DONE (lj ADm 2 rfl) (nj nms0 8 rfl).1) rfl) (@AAf _ _ _ _ _ (@ACs _ _ _ _ _ _ _ _ (pV 0 ADm 0 nms0 6 rfl rfl rfl) (@ACz _ _ _ _ _ _ _ AAz (@AAo _ _ _ _ _ (pV 0 ADm 0 nms0 6 rfl rfl rfl) rfl) (@AAt _ _ _ _ T.c_PC (lj ADm 3 rfl) (nj nms0 9 rfl).1) (fun _ _ => rfl)) rfl) (@AAf _ _ _ _ _ (@ACs _ _ _ _ _ _ _ _ (pV 0 ADm 0 nms0 6 rfl rfl rfl) (@ABy _ _ _ _ _ _ _ _ _ _ G_memory_of (hmo hr) (lj ADm 4 rfl) (@AAa _ _ _ _ _ (pV 2 ADm 5 nms0 10 rfl rfl rfl) (@AAa _ _ _ _ _ (pV 3 ADm 6 nms0 11 rfl rfl rfl) AAi rfl) rfl) (nj nms0 12 rfl).1 rfl rfl) rfl) (@AAg _ _ _ (@ACs _ _ _ _ _ _ _ _ (pV 0 ADm 0 nms0 6 rfl rfl rfl) AW6 rfl)))))))))), ?_⟩
  refine A9a cl rfl rfl hm hs hl fun ra H1 n1 x1 m1 r1 => ?_
  have hs := AJw hm x1 hs
  have hpa := AJw hm x1 hpa
  have hda := AJw hm x1 hda
  refine ASi cl 1 (by decide) m1 rfl rfl cl.negative (ibt 3 (AYc rfl hs hl)) (AAc rfl) fun H2 x2 m2 y2 => ?_
  have hs := AJw m1 x2 hs
  refine ASi cl 2 (by decide) m2 rfl rfl cl.zero (ibt 2 (AYc rfl hs hl)) (AAc rfl) fun H3 x3 m3 y3 => ?_
  have hs := AJw m2 x3 hs
  refine ASi cl 3 (by decide) m3 rfl rfl cl.carry (ibt 1 (AYc rfl hs hl)) (AAc rfl) fun H4 x4 m4 y4 => ?_
  have hs := AJw m3 x4 hs
  refine ASi (v := vB (Sd12.bit (st.getD 16 0) 0)) cl 4 (by decide) m4 rfl rfl cl.wrong_sign (by rw [← bit0N]; exact i1 (AYc rfl hs hl)) (AAc rfl) fun H5 x5 m5 y5 => ?_
  refine ASi (v := vN 0) cl 5 (by decide) m5 rfl rfl cl.end_ is_c (AAc rfl) fun H6 x6 m6 y6 => ?_
  have r6 := x6 _ _ (x5 _ _ (x4 _ _ (x3 _ _ (x2 _ _ r1 n1) n1) n1) n1) n1
  have fr : Is (tFld K (tVar 0) "regs") (start ["self", "state", "places", "data"] [V.ref m, .ref sa, .ref pa, .ref da]) H6 (.ref ra) := fun Q q => AAc (i := 0) rfl _ ⟨m, C, dx, _, _, rfl, m6, cl.cls, cl.regs, AFe (i := 0) rfl rfl rfl, q⟩
  refine ASi (v := vN ((st.take 16).getD 15 0)) cl 6 (by decide) m6 rfl rfl cl.onward (AKr fr is_c (.of r6) (AOw (by rw [List.length_take, hl]; decide))) (AAc rfl) fun H7 x7 m7 y7 => ?_
  have x17 := ((((x2.trans x3).trans x4).trans x5).trans x6).trans x7
  have hpa := AJw m1 x17 hpa
  have hda := AJw m1 x17 hda
  refine BBh cl rfl rfl rfl m7 rfl hpa hda len hps fun ma H8 n8 f8 x8 m8 l8 => ?_
  refine BBv cl rfl m8 rfl fun ba H9 n9 f9 x9 m9 l9 => ?_
  have r9 := x9 _ _ (x8 _ _ (x7 _ _ r6 n1) n1) n1
  have hb := A7t (ps := ps) hds
  exact k ⟨dx, ra, ma, ba⟩ H9 { ins := m9
                                regs := r9
                                mem := x9 _ _ l8 n8
                                bb := l9
                                len := by show (st.take 16).length = 16; rw [List.length_take, hl]; rfl
                                size := A3r ps ds
                                word := fun x hx => hw x (List.mem_of_mem_take hx)
                                byte := hb
                                nd := List.nodup_nil
                                key := fun p hp => (List.not_mem_nil hp).elim
                                old := fun a => rfl }
noncomputable def AYo (K : Frag) : Sp := fun vs H Q _ => ∃ (sa : Addr) (st : List Nat), vs = [.ref sa] ∧ SqL K H sa (st.map vN) ∧ st.length = 18 ∧ Q (.bl (decide (st.getD 13 0 % 4 = 0 ∧ st.getD 15 0 % 2 = 0 ∧ st.getD 16 0 < 16))) H
theorem BCl {σ : L2.St} {H : Hp} {ta tb : TE} {x y : Nat} (ha : Is ta σ H (vN x)) (hb : Is tb σ H (vN y)) : Is (tOp (rI0 fun i j => .bl (decide (i ≤ j))) ta tb) σ H (.bl (decide (x ≤ y))) := AFw (is_i ha hb) (congrArg V.bl (decide_eq_decide.mpr Int.ofNat_le))
theorem AZv (T : Txt K mg) : Fn P w K mg base "can_be" 1 ["state"] (AYo K) := by
  refine T.A5y.fn AYj (fun _ _ _ _ _ _ => ln1 (fun _ => rfl)) (fun vs H Q E h => ?_) (fun f cdv A outer s H vs Q E hr h => ?_)
  · obtain ⟨sa, st, rfl, _⟩ := h
    rfl
  obtain ⟨sa, st, rfl, hs, hl, k⟩ := h
  refine ⟨_, (@AAg _ _ _ (@AAw _ _ _ _ (@AYf _ _ _ _ _ _ _ (@ADs _ _ _ _ _ _ _ _ AEl (@AAl _ _ _ _ _ _ _ _ A2j (@ACz _ _ _ _ _ _ _ AAz (pV 0 AIl 0 nms0 7 rfl rfl rfl) (@AAt _ _ _ _ T.c_SP (lj AIl 1 rfl) (nj nms0 22 rfl).1) (fun _ _ => rfl)) (pn 4)) (pn 0) rfl) (@AYf _ _ _ _ _ _ _ (@ADs _ _ _ _ _ _ _ _ AEl (@AAl _ _ _ _ _ _ _ _ A2j (@ACz _ _ _ _ _ _ _ AAz (pV 0 AIl 0 nms0 7 rfl rfl rfl) (@AAt _ _ _ _ T.c_PC (lj AIl 2 rfl) (nj nms0 9 rfl).1) (fun _ _ => rfl)) (pn 2)) (pn 0) rfl) (@AVt _ _ _ _ _ (@ADs _ _ _ _ _ _ _ _ op_le (@ACz _ _ _ _ _ _ _ AAz (pV 0 AIl 0 nms0 7 rfl rfl rfl) (pn 16) (fun _ _ => rfl)) (pn 15) rfl)))))), ?_⟩
  have at_ : ∀ i, i < 18 → (st.map vN)[i]? = some (vN (st.getD i 0)) := fun i hi => AOw (by rw [hl]; exact hi)
  refine AOr (AZo (ADa (AIw (AKr (AAc rfl) is_c hs (at_ 13 (by decide))) is_c (by show 0 < 4; decide)) is_c) fun _ => AZo (ADa (AIw (AKr (AAc rfl) is_c hs (at_ 15 (by decide))) is_c (by show 0 < 2; decide)) is_c) fun _ => BCl (AKr (AAc rfl) is_c hs (at_ 16 (by decide))) is_c) ?_
  have e : (decide (st.getD 13 0 % 4 = 0) && (decide (st.getD 15 0 % 2 = 0) && decide (st.getD 16 0 ≤ 15))) = decide (st.getD 13 0 % 4 = 0 ∧ st.getD 15 0 % 2 = 0 ∧ st.getD 16 0 < 16) := by
    rw [ATv, ATv]
    exact decide_eq_decide.mpr (and_congr Iff.rfl (and_congr Iff.rfl Nat.lt_succ_iff.symm))
  rw [e]
  exact k
end
end Chip
namespace Chip
open PySem L2 LX
theorem MAt.same {C m : Addr} {H H' : Hp} {B : Ad} {M : Mx} (hM : MAt C H m B M) (s : Same H H') : MAt C H' m B M := { hM with ins := s _ _ hM.ins, regs := s _ _ hM.regs, mem := s _ _ hM.mem, bb := s _ _ hM.bb }
noncomputable def AL5 (M : Mx) : Nat := 8 * Sd12.toNat M.n + 4 * Sd12.toNat M.z + 2 * Sd12.toNat M.c + Sd12.toNat M.v
noncomputable def AVg (C : Addr) : Sp := fun vs H Q _ => ∃ m B M, vs = [.ref m] ∧ MAt C H m B M ∧ ∀ l H', Same H H' → H' l = some (.lst ((M.r ++ [AL5 M, M.en]).map vN)) → Q (.ref l) H'
section
variable {P : Program} {w : World} {K : Frag} {mg : Str → Option Value} {base : Heap} {C : Addr}
theorem AVo {σ : L2.St} {H : Hp} {m : Addr} {B : Ad} {M : Mx} {f : Str} {b : Bool} {j : Nat} (cl : Cl K C) (hM : MAt C H m B M) (hn : AFl K C f) (l : (mf B M).lookup f = some (vB b)) (e0 : σ[0]? = some (some (.ref m))) (hj : j < 2 ^ 64) : Is (tOp (rNC (fun a _ => a < 2 ^ 64) fun a b => a * b) (tC (.int (j : Int))) (tFld K (tVar 0) f)) σ H (vN (j * Sd12.toNat b)) := AIw is_c (ADg cl hM hn l (AAc e0)) hj
theorem BAq {σ : L2.St} {H : Hp} {ta : TE} {tb : TA} {a : Addr} {xs zs : List V} {D : Ends} (ha : Is ta σ H (.ref a)) (hb : IsA tb σ H zs) (hx : H a = some (.lst xs)) (hz : zs.length ≤ sizeLine) (hl : xs.length + zs.length ≤ sizeLine) (q : ∀ l H', Same H H' → H' l = some (.lst (xs ++ zs)) → D.rt (.ref l) H') : tRet (tOp (A6k K) ta (tLst tb)) D σ H :=
  ha _ (hb _ ⟨hz, fun p hp => ⟨a, p, xs, zs, rfl, rfl, .inl (.of (ABm hp _ _ hx)), .inl (.of AAv), hl, fun l hl' => q l _ ((ABm hp).trans (ABm hl')) AAv⟩⟩)
theorem ASb (T : Txt K mg) (cl : Cl K C) : Fn P w K mg base "state_of" 1 ["machine"] (AVg C) := by
  refine T.AW7.fn AMe (fun _ _ _ _ _ _ => ln1 (fun _ => rfl)) (fun vs H Q E h => ?_) (fun f cdv A outer s H vs Q E hr h => ?_)
  · obtain ⟨m, B, M, rfl, _⟩ := h
    rfl
  obtain ⟨m, B, M, rfl, hM, k⟩ := h
  refine ⟨_, (@AAf _ _ _ _ _ (@ABk _ _ 1 _ _ _ _ AMe.nd rfl (Or.inl (lj ADo 1 rfl)) (@AAl _ _ _ _ _ _ _ _ AHo (@AAl _ _ _ _ _ _ _ _ AHo (@AAl _ _ _ _ _ _ _ _ AHo (@AAl _ _ _ _ _ _ _ _ AOq (pn 8) (@AAo _ _ _ _ _ (pV 0 ADo 0 nms0 17 rfl rfl rfl) rfl)) (@AAl _ _ _ _ _ _ _ _ AOq (pn 4) (@AAo _ _ _ _ _ (pV 0 ADo 0 nms0 17 rfl rfl rfl) rfl))) (@AAl _ _ _ _ _ _ _ _ AOq (pn 2) (@AAo _ _ _ _ _ (pV 0 ADo 0 nms0 17 rfl rfl rfl) rfl))) (@AAo _ _ _ _ _ (pV 0 ADo 0 nms0 17 rfl rfl rfl) rfl)) rfl (.inl rfl)) (@AAg _ _ _ (@AAw _ _ _ _ (@AAl _ _ _ _ _ _ _ _ AOl (@AAo _ _ _ _ _ (pV 0 ADo 0 nms0 17 rfl rfl rfl) rfl) (@ASo _ _ _ _ (@AAa _ _ _ _ _ (pV 1 ADo 1 nms0 18 rfl rfl rfl) (@AAa _ _ _ _ _ (@AAo _ _ _ _ _ (pV 0 ADo 0 nms0 17 rfl rfl rfl) rfl) AAi rfl) rfl)))))), ?_⟩
  refine AGj (v := vN (AL5 M)) (is_n (is_n (is_n (AVo (j := 8) cl hM cl.negative AI7 rfl (by decide)) (AVo (j := 4) cl hM cl.zero ARv rfl (by decide))) (AVo (j := 2) cl hM cl.carry AM9 rfl (by decide))) (ADg cl hM cl.wrong_sign AHb (AAc rfl))) ?_
  refine BAq (ADg cl hM cl.regs ARx (AAc rfl)) (AAe (v := vN (AL5 M)) (AAc rfl) (AAe (ADg cl hM cl.end_ AP2 (AAc rfl)) AAs)) hM.regs (by show 2 ≤ sizeLine; decide) ?_ fun l H' s1 h1 => k l H' s1 ?_
  · rw [List.length_map, hM.len]
    show 16 + 2 ≤ sizeLine
    decide
  · rw [h1, List.map_append]
    rfl
@[irreducible] def places : List Nat := List.range 65536
theorem places_eq : places = List.range 65536 := by unfold places; rfl
noncomputable def APh (M : Mx) (l : List Nat) : List Nat := (l.filter fun a => M.mem.getD a 0 != M.m0.getD a 0).flatMap fun a => [a, M.mem.getD a 0]
noncomputable def AOj (C : Addr) : Sp := fun vs H Q _ => ∃ m B M, vs = [.ref m] ∧ MAt C H m B M ∧ ∀ l H', Same H H' → H' l = some (.lst ((APh M places).map vN)) → Q (.ref l) H'
theorem A1r (M : Mx) (l : List Nat) : (APh M l).length ≤ 2 * l.length := by
  unfold APh
  rw [List.length_flatMap]
  have z : ∀ l' : List Nat, (l'.map fun a => [a, M.mem.getD a 0].length).sum = 2 * l'.length := by
    intro l'
    induction l' with
    | nil => rfl
    | cons x r ih =>
      rw [List.map_cons, List.sum_cons, ih]
      show 2 + 2 * r.length = 2 * (r.length + 1)
      omega
  rw [z]
  exact Nat.mul_le_mul_left 2 (List.length_filter_le _ _)
theorem AU5 (M : Mx) (l : List Nat) (a : Nat) : APh M (l ++ [a]) = APh M l ++ if M.mem.getD a 0 = M.m0.getD a 0 then [] else [a, M.mem.getD a 0] := by
  unfold APh
  rw [List.filter_append, List.flatMap_append]
  congr 1
  by_cases e : M.mem.getD a 0 = M.m0.getD a 0
  · rw [if_pos e, List.filter_cons_of_neg (by simpa using e)]
    rfl
  · rw [if_neg e, List.filter_cons_of_pos (by simpa using e)]
    rfl
theorem A7l {L : List Nat} {N : Nat} {f : Nat → Bool} (nd : L.Nodup) (hs : L.Pairwise (· ≤ ·)) (h1 : ∀ a ∈ L, a < N) (h2 : ∀ a, f a = true → a ∈ L) : L.filter f = (List.range N).filter f := by
  refine List.Perm.eq_of_pairwise (le := (· ≤ ·)) (fun a b _ _ h1 h2 => Nat.le_antisymm h1 h2) (hs.filter _) ((List.pairwise_lt_range.imp fun h => Nat.le_of_lt h).filter _) ?_
  refine (List.perm_ext_iff_of_nodup (nd.filter _) (List.nodup_range.filter _)).mpr fun a => ?_
  rw [List.mem_filter, List.mem_filter, List.mem_range]
  exact ⟨fun h => ⟨h1 a h.1, h.2⟩, fun h => ⟨h2 a h.2, h.2⟩⟩
theorem BAm {C m : Addr} {H : Hp} {B : Ad} {M : Mx} (hM : MAt C H m B M) {L : List Nat} (hp : L.Perm (M.bb.map (·.1))) (hs : L.Pairwise (· ≤ ·)) : APh M L = APh M places := by
  unfold APh
  have mem : ∀ a, a ∈ L ↔ a ∈ M.bb.map (·.1) := fun a => hp.mem_iff
  rw [places_eq, A7l (N := 65536) (hp.nodup_iff.mpr hM.nd) hs (fun a h1 => ?_) (fun a h2 => ?_)]
  · obtain ⟨p, hp, rfl⟩ := List.mem_map.mp ((mem a).mp h1)
    exact hM.key p hp
  · refine Classical.byContradiction fun c => ?_
    have e : findB M.bb a = none := AP8.mpr fun z => c ((mem a).mpr z)
    have o := hM.old a
    rw [ASc, e] at o
    have o : M.mem.getD a 0 = M.m0.getD a 0 := o
    rw [o] at h2
    simp at h2
theorem BAl {C m : Addr} {H : Hp} {B : Ad} {M : Mx} (hM : MAt C H m B M) {a : Nat} (h : a ∈ M.bb.map (·.1)) : findB M.bb a = some (M.m0.getD a 0) := by
  cases e : findB M.bb a with
  | none => exact absurd h (AP8.mp e)
  | some y =>
    have o := hM.old a
    rw [ASc, e] at o
    rw [← o]
    rfl
theorem BCw {σ : L2.St} {H : Hp} {tx : TE} {ca : Addr} {xs : List V} {y : V} {u : TS} {D : Ends} (e1 : σ[1]? = some (some (.ref ca))) (h : H ca = some (.lst xs)) (hl : xs.length < sizeLine) (hy : Is tx σ H y) (q : u D σ (upd H ca (.lst (xs ++ [y])))) : tSeq (AOi (tBM K "list" AVd (tVar 1) (ABx tx tNil))) u D σ H :=
  ⟨_, e1, .inl ⟨rfl, _, .of h⟩, AAe hy AAs _ ⟨ca, xs, y, rfl, rfl, h, hl, q⟩⟩
theorem BCu {σ : L2.St} {H : Hp} {tx : TE} {ca : Addr} {xs : List V} {y : V} {D : Ends} (e1 : σ[1]? = some (some (.ref ca))) (h : H ca = some (.lst xs)) (hl : xs.length < sizeLine) (hy : Is tx σ H y) (q : D.nx σ (upd H ca (.lst (xs ++ [y])))) : AOi (tBM K "list" AVd (tVar 1) (ABx tx tNil)) D σ H :=
  ⟨_, e1, .inl ⟨rfl, _, .of h⟩, AAe hy AAs _ ⟨ca, xs, y, rfl, rfl, h, hl, q⟩⟩
theorem AXp {g : TG} {tb : TS} {D : Ends} {σ : L2.St} {H : Hp} {t : Addr} {l : List Nat} (Pv : Nat → L2.St → Hp → Prop) (hT : SqL K H t (l.map vN)) (h0 : Pv 0 σ H) (hl : ∀ i σ H, Pv i σ H → SqL K H t (l.map vN))
    (hs : ∀ i σ H, i < l.length → Pv i σ H → g (vN (l.getD i 0)) σ H fun σ2 H2 => tb { D with nx := Pv (i + 1), ct := Pv (i + 1), bk := D.nx } σ2 H2) (hd : ∀ σ H, Pv l.length σ H → D.nx σ H) : ∃ a, V.ref t = .ref a ∧ (∃ xs, SqL K H a xs) ∧ ∃ W : Nat → Nat → L2.St → Hp → Prop, (∃ m, W 0 m σ H) ∧ ∀ i m σ H, W i m σ H →
      ((Itl K a).stop i H ∧ D.nx σ H) ∨ ((Itl K a).go i H ∧ ∃ N : L2.St → Hp → Prop, (∀ σ' H', N σ' H' → ∃ m', m' < m ∧ W (i + 1) m' σ' H') ∧ ∀ x H', (Itl K a).yld i H x H' → g x σ H' fun σ2 H2 => tb { D with nx := N, ct := N, bk := D.nx } σ2 H2) := by
  refine ⟨t, rfl, ⟨_, hT⟩, A2h Pv h0 (fun i σ H _ p => hl i σ H p) (fun i x σ H hx p => ?_) (fun σ H p => hd σ H ?_)⟩
  · obtain ⟨rfl, hi⟩ := getD_at hx
    exact hs i σ H hi p
  · rw [List.length_map] at p
    exact p
theorem AOt (T : Txt K mg) (cl : Cl K C) : Fn P w K mg base "changes_of" 1 ["machine"] (AOj C) := by
  refine T.AQ5.fn AFz (fun _ _ _ _ _ _ => ln1 (fun _ => rfl)) (fun vs H Q E h => ?_) (fun f cdv A outer s H vs Q E hr h => ?_)
  · obtain ⟨m, B, M, rfl, _⟩ := h
    rfl
  obtain ⟨m, B, M, rfl, hM, k⟩ := h
  refine ⟨_, (@AAf _ _ _ _ _ (@ABk _ _ 1 _ _ _ _ AFz.nd rfl (Or.inl (lj ABd 0 rfl)) (@ASo _ _ _ _ AAi) rfl (.inl rfl)) (@AAf _ _ _ _ _ (@AUh _ _ _ _ _ _ _ _ PassesOwn.never rfl (@A9t _ _ _ _ (@AH2 _ _ _ _ _ _ _ _ _ (AQr rfl) (lj ABd 2 rfl) T.n_sorted AY4 (@AAa _ _ _ _ _ (@AAo _ _ _ _ _ (pV 0 ABd 3 nms0 17 rfl rfl rfl) rfl) AAi rfl) nn_sorted (nj nms0 3 rfl).1 rfl rfl)) (@AKf _ _ 2 _ AFz.nd rfl (Or.inl (lj ABd 1 rfl)) (.inl rfl)) (@AAf _ _ _ _ _ (@ABk _ _ 3 _ _ _ _ AFz.nd rfl (Or.inl (lj ABd 4 rfl)) (@ACz _ _ _ _ _ _ _ AAz (@AAo _ _ _ _ _ (pV 0 ABd 3 nms0 17 rfl rfl rfl) rfl) (pV 2 ABd 1 nms0 16 rfl rfl rfl) (fun _ _ => rfl)) rfl (.inl rfl)) (@AAg _ _ _ (@AEn _ _ _ _ _ _ _ _ (@AAy _ _ _ _ _ _ _ _ A54 (pV 3 ABd 4 nms0 15 rfl rfl rfl) (@A1k _ _ _ _ _ _ (BAi hr) (@AAo _ _ _ _ _ (pV 0 ABd 3 nms0 17 rfl rfl rfl) rfl) (pV 2 ABd 1 nms0 16 rfl rfl rfl) (fun _ _ => rfl)) rfl) (@AAf _ _ _ _ _ (@ACe _ _ _ _ (@BAs _ _ _ _ _ _ _ _ _ _ _ _ PySem.F.plainAttrs_list PySem.F.slot_list_append PySem.F.type_list_append AN9 (pV 1 ABd 0 nms0 19 rfl rfl rfl) (@AAa _ _ _ _ _ (pV 2 ABd 1 nms0 16 rfl rfl rfl) AAi rfl) rfl rfl rfl rfl rfl) rfl) (@AAg _ _ _ (@ACe _ _ _ _ (@BAs _ _ _ _ _ _ _ _ _ _ _ _ PySem.F.plainAttrs_list PySem.F.slot_list_append PySem.F.type_list_append AN9 (pV 1 ABd 0 nms0 19 rfl rfl rfl) (@AAa _ _ _ _ _ (pV 3 ABd 4 nms0 15 rfl rfl rfl) AAi rfl) rfl rfl rfl rfl rfl) rfl))) ABf))) (by intro _; rfl)) (@AAg _ _ _ (@AAw _ _ _ _ (pV 1 ABd 0 nms0 19 rfl rfl rfl))))), ?_⟩
  refine ⟨by show 0 ≤ sizeLine; decide, fun ca hca => ?_⟩
  have s0 : Same H (upd H ca (.lst [])) := ABm hca
  have hM0 := hM.same s0
  have keys : (bbK M.bb).map (·.1) = (M.bb.map fun p => (p.1 : Int)).map Sum.inl := by
    unfold bbK
    rw [List.map_map, List.map_map]
    rfl
  refine ADg cl hM0 cl.bytes_before AGc (AAc rfl) _ ⟨B.ba, _, _, rfl, hM0.bb, keys, fun ns p hperm hsort hp => ?_⟩
  have hn : ∀ x ∈ ns, 0 ≤ x := fun x hx => by
    obtain ⟨q, _, rfl⟩ := List.mem_map.mp (hperm.mem_iff.mp hx)
    exact Int.natCast_nonneg _
  have eL : ns.map V.int = (ns.map Int.toNat).map vN := by
    rw [List.map_map]
    refine List.map_congr_left fun x hx => ?_
    show V.int x = V.int ((x.toNat : Nat) : Int)
    rw [Int.toNat_of_nonneg (hn x hx)]
  have pL : (ns.map Int.toNat).Perm (M.bb.map (·.1)) := by
    have z := hperm.map Int.toNat
    rw [List.map_map] at z
    exact z
  have sL : (ns.map Int.toNat).Pairwise (· ≤ ·) := List.pairwise_map.mpr (hsort.imp fun h => Int.toNat_le_toNat h)
  rw [eL]
  generalize ns.map Int.toNat = L at pL sL
  have hlen : L.length ≤ 65536 := by
    rw [pL.length_eq]
    exact APm hM.nd fun x hx => by
      obtain ⟨q, hq, rfl⟩ := List.mem_map.mp hx
      exact hM.key q hq
  have s1 : Same H (upd (upd H ca (.lst [])) p (.lst (L.map vN))) := s0.trans (ABm hp)
  have cp : ca ≠ p := fun z => by rw [← z, AAv] at hp; cases hp
  refine AXp (t := p) (l := L) (fun i σ H' => ∃ o2 o3, σ = [some (.ref m), some (.ref ca), o2, o3] ∧ H' ca = some (.lst ((APh M (L.take i)).map vN)) ∧ H' p = some (.lst (L.map vN)) ∧ Same H H') (.inl (.of AAv)) ⟨none, none, rfl, by rw [ABi cp, AAv]; rfl, AAv, s1⟩ (fun i σ H' h => ?_) (fun i σ H' hi h => ?_) (fun σ H' h => ?_)
  · obtain ⟨_, _, _, _, h2, _⟩ := h
    exact .inl (.of h2)
  · obtain ⟨o2, o3, rfl, h1, h2, h3⟩ := h
    have hM1 := hM.same h3
    have hin : L.getD i 0 ∈ M.bb.map (·.1) := pL.mem_iff.mp (getD_in hi)
    have ha : L.getD i 0 < 65536 := by
      obtain ⟨q, hq, e⟩ := List.mem_map.mp hin
      rw [← e]
      exact hM.key q hq
    generalize hx : L.getD i 0 = a at hin ha
    have hb : L.length ≤ 65536 := hlen
    have hl : ((APh M (L.take i)).map vN).length + 1 < sizeLine := by
      rw [List.length_map]
      have z := A1r M (L.take i)
      rw [List.length_take] at z
      show _ + 1 < 16777216
      omega
    have et : L.take (i + 1) = L.take i ++ [a] := by rw [take_succ_getD hi, hx]
    have so : ∀ (b : Addr) (o : HO), H b = some o → b ≠ ca := fun b o e z => by rw [z, hca] at e; cases e
    refine AGj (v := vN (M.mem.getD a 0)) (AKr (ADg cl hM1 cl.memory AEx (AAc rfl)) (AAc rfl) (.of hM1.mem) (hM1.mem_at ha)) ?_
    have g : DGet H' B.ba (vN a) (some (vN (M.m0.getD a 0))) := .inl ⟨_, .inl (a : Int), .inl hM1.bb, rfl, by rw [A3z, BAl hM hin]; rfl⟩
    refine A6h (p := ¬ M.mem.getD a 0 = M.m0.getD a 0) (by exact AZu (ABg (AVy (x := M.mem.getD a 0) (AAc rfl) (A0v (ADg cl hM1 cl.bytes_before AGc (AAc rfl)) (AAc rfl) g))) decide_not.symm) (fun c => ?_) (fun c => ?_)
    · refine BCw (y := vN a) rfl h1 (Nat.lt_of_succ_lt hl) (AAc rfl) ?_
      refine BCu (y := vN (M.mem.getD a 0)) rfl AAv (by rw [List.length_append]; exact hl) (AAc rfl) ⟨_, _, rfl, ?_, ?_, fun b o e => ?_⟩
      · rw [AAv, et, AU5, if_neg c, List.map_append, List.append_assoc]
        rfl
      · rw [ABi cp.symm, ABi cp.symm]
        exact h2
      · rw [ABi (so b o e), ABi (so b o e)]
        exact h3 b o e
    · refine ⟨_, _, rfl, ?_, h2, h3⟩
      rw [et, AU5, if_pos (Classical.byContradiction c), List.append_nil]
      exact h1
  · obtain ⟨o2, o3, rfl, h1, h2, h3⟩ := h
    rw [List.take_length, BAm hM pL sL] at h1
    exact ⟨_, rfl, k ca H' h3 h1⟩
end
end Chip
namespace Chip
open PySem L2 LX
noncomputable def ARw (l : List Nat) : List Int := l.map fun (x : Nat) => (x : Int)
theorem A3u (l : List Nat) : l.map vN = (ARw l).map V.int := by
  unfold ARw
  rw [List.map_map]
  rfl
noncomputable def runL (n : Int) (st mem : List Nat) : List Int :=
  if n < 0 ∨ 16777216 < n then -1 :: ARw st else if st.getD 13 0 % 4 = 0 ∧ st.getD 15 0 % 2 = 0 ∧ st.getD 16 0 < 16 then
    (((Sd12.run n.toNat 0 (stOf (stM st mem) (rg (stM st mem) 15))).2.1 : Nat) : Int) :: (ARw ((Sd12.run n.toNat 0 (stOf (stM st mem) (rg (stM st mem) 15))).1.r ++ [Sd12.flags (Sd12.run n.toNat 0 (stOf (stM st mem) (rg (stM st mem) 15))).1, (Sd12.run n.toNat 0 (stOf (stM st mem) (rg (stM st mem) 15))).2.2.1 + 256 * (Sd12.run n.toNat 0 (stOf (stM st mem) (rg (stM st mem) 15))).2.2.2]) ++ ARw ((places.filter fun a => (Sd12.run n.toNat 0 (stOf (stM st mem) (rg (stM st mem) 15))).1.mem a != mem.getD a 0).flatMap fun a => [a, (Sd12.run n.toNat 0 (stOf (stM st mem) (rg (stM st mem) 15))).1.mem a]))
  else -2 :: ARw st
theorem AVq {l : List Nat} {i : Nat} (h : i < l.length) : l.set i (l.getD i 0) = l := by
  rw [List.getD_eq_getElem?_getD, List.getElem?_eq_getElem h]
  exact List.set_getElem_self h
section
variable {P : Program} {w : World} {K : Frag} {mg : Str → Option Value} {base : Heap} {C fi : Addr} {fd : FuncData}
noncomputable def BBk (K : Frag) : Sp := fun vs H Q _ => ∃ (n : Int) (sa pa da : Addr) (st ps ds : List Nat), vs = [.int n, .ref sa, .ref pa, .ref da] ∧ LstAt K H sa (st.map vN) ∧ SqL K H pa (ps.map vN) ∧ SqL K H da (ds.map vN) ∧ st.length = 18 ∧ (∀ x ∈ st, x < 2 ^ 32) ∧ ps.length = ds.length ∧ (∀ p ∈ ps, p < 65536) ∧ (∀ d ∈ ds, d < 256) ∧
  ∀ l H', H' l = some (.lst ((runL n st (memL ps ds)).map V.int)) → Q (.ref l) H'
section
variable {σ : L2.St} {H : Hp} {u : TS} {D : Ends} {m : Addr} {B : Ad} {M : Mx}
theorem LstAt.same {a : Addr} {xs : List V} {H' : Hp} (s : Same H H') (h : LstAt K H a xs) : LstAt K H' a xs := by
  rcases h with h | h
  · rcases h with h | ⟨o, h⟩
    · exact .inl (.inl (s _ _ h))
    · exact .inl (.inr ⟨o, s _ _ h⟩)
  · exact .inr h
theorem AQk {a : Addr} {xs : List V} {H' : Hp} (s : Same H H') (h : SqL K H a xs) : SqL K H' a xs := by
  rcases h with h | h
  · rcases h with h | ⟨o, h⟩
    · exact .inl (.inl (s _ _ h))
    · exact .inl (.inr ⟨o, s _ _ h⟩)
  · exact .inr h
theorem A7a {j : Nat} {sa : Addr} {xs : List V} (e1 : σ[1]? = some (some (.ref sa))) (hs : LstAt K H sa xs) (hl : xs.length = 18) (q : ∀ l H', H' l = some (.lst (.int (-(j : Int)) :: xs)) → D.rt (.ref l) H') :
    tRet (tOp (A6k K) (tLst (ABx (tUn (rU fun i => .int (-i)) (tC (.int (j : Int)))) tNil)) (tVar 1)) D σ H := by
  refine ⟨_, rfl, by show 1 ≤ sizeLine; decide, fun p hp => ?_⟩
  refine AAc e1 _ ⟨p, sa, _, _, rfl, rfl, .inl (.of AAv), LstAt.same (ABm hp) hs, ?_, fun l hl' => q l _ AAv⟩
  rw [hl]
  show 1 + 18 ≤ sizeLine
  decide
theorem A8x {t : TA} {vs : List V} {j : Nat} {sp : Sp} (h : IsA t σ H vs) (q : ∀ x dx, H x = none → H dx = none → dx ≠ x → sp (.ref x :: (vs ++ [])) (upd (upd H dx (.own x)) x (.ins C dx [])) (fun v H2 => v = .non ∧ u D (σ.set j (some (.ref x))) H2) E0) : tSeq (tAsg (BEh C sp [] E0 t) (A1t j)) u D σ H := h _ q
theorem BA5 {d : Nat} (e4 : σ[4]? = some (some (.ref m))) (e5 : σ[5]? = some (some (vN d))) (hM : MAt C H m B M) (q : ∀ l H', H' l = some (.lst ((d :: (M.r ++ [AL5 M, M.en]) ++ APh M places).map vN)) → D.rt (.ref l) H') :
    tRet (tOp (A6k K) (tOp (A6k K) (tLst (ABx (tVar 5) tNil)) (tFn (AVg C) (ABx (tVar 4) tNil))) (tFn (AOj C) (ABx (tVar 4) tNil))) D σ H := by
  refine AAc e5 _ ⟨by show 1 ≤ sizeLine; decide, fun p hp => ?_⟩
  have s1 : Same H (upd H p (.lst [vN d])) := ABm hp
  refine AAc e4 _ ⟨m, B, M, rfl, hM.same s1, fun l1 H1 s2 h1 => ?_⟩
  have hp1 := s2 _ _ (AAv (H := H) (a := p) (o := .lst [vN d]))
  refine ⟨p, l1, _, _, rfl, rfl, .inl (.of hp1), .inl (.of h1), ?_, fun l2 n2 => ?_⟩
  · rw [List.length_map, List.length_append, hM.len]
    show 1 + (16 + 2) ≤ sizeLine
    decide
  have s3 : Same H (upd H1 l2 (.lst ([vN d] ++ (M.r ++ [AL5 M, M.en]).map vN))) := (s1.trans s2).trans (ABm n2)
  refine AAc e4 _ ⟨m, B, M, rfl, hM.same s3, fun l3 H3 s4 h3 => ?_⟩
  refine ⟨l2, l3, _, _, rfl, rfl, .inl (.of (s4 _ _ AAv)), .inl (.of h3), ?_, fun l4 n4 => q l4 _ ?_⟩
  · rw [List.length_append, List.length_map, List.length_append, hM.len, List.length_map]
    have z := A1r M places
    rw [places_eq, List.length_range] at z
    rw [places_eq]
    show 1 + (16 + 2) + _ ≤ 16777216
    omega
  · have e : (d :: (M.r ++ [AL5 M, M.en]) ++ APh M places).map vN = [vN d] ++ (M.r ++ [AL5 M, M.en]).map vN ++ (APh M places).map vN := by
      rw [List.map_append]
      rfl
    rw [AAv, e]
end
theorem BAu {F : Sd12.St × Nat × Sd12.Why} {M : Mx} {mem : List Nat} (hl : M.r.length = 16) (h1 : F.1 = stOf M (rg M 15)) (h2 : M.en = F.2.2.1 + 256 * F.2.2.2) (h3 : M.m0 = mem) :
    (F.2.1 :: (M.r ++ [AL5 M, M.en]) ++ APh M places).map vN = (((F.2.1 : Nat) : Int) :: (ARw (F.1.r ++ [Sd12.flags F.1, F.2.2.1 + 256 * F.2.2.2]) ++ ARw ((places.filter fun a => F.1.mem a != mem.getD a 0).flatMap fun a => [a, F.1.mem a]))).map V.int := by
  have er : F.1.r = M.r := by
    rw [h1]
    exact AVq (by rw [hl]; decide)
  have ef : Sd12.flags F.1 = AL5 M := by rw [h1]; rfl
  have em : F.1.mem = fun a => M.mem.getD a 0 := by rw [h1]; rfl
  rw [er, ef, ← h2, em, ← h3]
  rw [A3u]
  refine congrArg (List.map V.int) ?_
  show ((F.2.1 : Nat) : Int) :: ARw ((M.r ++ [AL5 M, M.en]) ++ APh M places) = _
  unfold ARw
  rw [List.map_append]
  rfl
theorem BCc (T : Txt K mg) (cl : Cl K C) (TC : TxC K mg C fi fd) : Fn P w K mg base "run" 7 ["n", "state", "places", "data"] (BBk K) := by
  have G_can_be := AZv (P := P) (w := w) (base := base) T
  have G_init := A9e (P := P) (w := w) (base := base) T cl TC
  have B_init : Binds K fd ["self", "state", "places", "data"] [] := TC.fn.binds (fun _ _ _ _ _ _ => ln4 (fun _ _ _ _ => rfl))
  have G_do_steps := ASf (P := P) (w := w) (base := base) T cl
  have G_state_of := ASb (P := P) (w := w) (base := base) T cl
  have G_changes_of := AOt (P := P) (w := w) (base := base) T cl
  refine T.d_run.fn A4c (fun _ _ _ _ _ _ => ln4 (fun _ _ _ _ => rfl)) (fun vs H Q E h => ?_) (fun f cdv A outer s H vs Q E hr h => ?_)
  · obtain ⟨n, sa, pa, da, st, ps, ds, rfl, _⟩ := h
    rfl
  obtain ⟨n, sa, pa, da, st, ps, ds, rfl, hs, hpa, hda, hl, hw, len, hps, hds, k⟩ := h
  refine ⟨_, (@AAf _ _ _ _ _ (@AEn _ _ _ _ _ _ _ _ (@PW.pt _ _ _ (@A56 _ _ _ _ _ _ _ (@AAy _ _ _ _ _ _ _ _ BAe (pV 0 AF4 0 nms1 12 rfl rfl rfl) (pn 0) rfl) (@AU0 _ _ _ _ (@AAy _ _ _ _ _ _ _ _ A6m (pV 0 AF4 0 nms1 12 rfl rfl rfl) (@AAt _ _ _ _ T.c_MOST_STEPS (lj AF4 1 rfl) (nj nms4 22 rfl).1) rfl)))) (@AAg _ _ _ (@AAw _ _ _ _ (@AAl _ _ _ _ _ _ _ _ AOl (@ASo _ _ _ _ (@AAa _ _ _ _ _ (@BCi _ _ _ _ _ _ A2m (pn 1)) AAi rfl)) (pV 1 AF4 2 nms0 7 rfl rfl rfl)))) ABf) (@AAf _ _ _ _ _ (@AEn _ _ _ _ _ _ _ _ (@A2p _ _ _ _ (@AJ0 _ _ _ (@ABy _ _ _ _ _ _ _ _ _ _ G_can_be (hmo hr) (lj AF4 3 rfl) (@AAa _ _ _ _ _ (pV 1 AF4 2 nms0 7 rfl rfl rfl) AAi rfl) (nj nms4 23 rfl).1 rfl rfl) (by intro _; rfl))) (@AAg _ _ _ (@AAw _ _ _ _ (@AAl _ _ _ _ _ _ _ _ AOl (@ASo _ _ _ _ (@AAa _ _ _ _ _ (@BCi _ _ _ _ _ _ A2m (pn 2)) AAi rfl)) (pV 1 AF4 2 nms0 7 rfl rfl rfl)))) ABf) (@AAf _ _ _ _ _ (@ABk _ _ 4 _ _ _ _ A4c.nd rfl (Or.inl (lj AF4 7 rfl)) (@A8e _ _ _ _ _ _ _ _ _ _ _ _ _ _ _ _ _ TC.make G_init (hmo hr) (lj AF4 4 rfl) TC.c B_init .nil BDk (@AAa _ _ _ _ _ (pV 1 AF4 2 nms0 7 rfl rfl rfl) (@AAa _ _ _ _ _ (pV 2 AF4 5 nms0 10 rfl rfl rfl) (@AAa _ _ _ _ _ (pV 3 AF4 6 nms0 11 rfl rfl rfl) AAi rfl) rfl) rfl) (nj nms5 0 rfl).1 rfl rfl) rfl (.inl rfl)) (@AAf _ _ _ _ _ (@ABk _ _ 5 _ _ _ _ A4c.nd rfl (Or.inl (lj AF4 9 rfl)) (@ABy _ _ _ _ _ _ _ _ _ _ G_do_steps (hmo hr) (lj AF4 8 rfl) (@AAa _ _ _ _ _ (pV 4 AF4 7 nms0 17 rfl rfl rfl) (@AAa _ _ _ _ _ (pV 0 AF4 0 nms1 12 rfl rfl rfl) AAi rfl) rfl) (nj nms5 1 rfl).1 rfl rfl) rfl (.inl rfl)) (@AAg _ _ _ (@AAw _ _ _ _ (@AAl _ _ _ _ _ _ _ _ AOl (@AAl _ _ _ _ _ _ _ _ AOl (@ASo _ _ _ _ (@AAa _ _ _ _ _ (pV 5 AF4 9 nms5 2 rfl rfl rfl) AAi rfl)) (@ABy _ _ _ _ _ _ _ _ _ _ G_state_of (hmo hr) (lj AF4 10 rfl) (@AAa _ _ _ _ _ (pV 4 AF4 7 nms0 17 rfl rfl rfl) AAi rfl) (nj nms5 3 rfl).1 rfl rfl)) (@ABy _ _ _ _ _ _ _ _ _ _ G_changes_of (hmo hr) (lj AF4 11 rfl) (@AAa _ _ _ _ _ (pV 4 AF4 7 nms0 17 rfl rfl rfl) AAi rfl) (nj nms5 4 rfl).1 rfl rfl)))))))), ?_⟩
  unfold runL at k
  refine AQ2 (p := n < 0 ∨ 16777216 < n) (by exact AZu (p_or (ABg (is_i (m := n) (AAc rfl) is_c)) (ABg (is_i (m := n) (AAc rfl) is_c))) A7s) (fun c => ?_) (fun c => ?_)
  · rw [if_pos c] at k
    refine A7a (j := 1) rfl hs (by rw [List.length_map]; exact hl) fun l H' h => k l H' ?_
    rw [h, A3u]
    rfl
  rw [if_neg c] at k
  refine AQ2 (p := ¬ (st.getD 13 0 % 4 = 0 ∧ st.getD 15 0 % 2 = 0 ∧ st.getD 16 0 < 16)) (by exact AZu (BEf (pu_b (APf (AAe (AAc rfl) AAs) fun Q q => ⟨sa, st, rfl, hs.sq, hl, q⟩))) decide_not.symm) (fun d => ?_) (fun d => ?_)
  · rw [if_neg d] at k
    refine A7a (j := 2) rfl hs (by rw [List.length_map]; exact hl) fun l H' h => k l H' ?_
    rw [h, A3u]
    rfl
  have d := Classical.byContradiction d
  rw [if_pos d] at k
  obtain ⟨j, rfl⟩ : ∃ j : Nat, n = (j : Int) := Int.eq_ofNat_of_zero_le (Int.not_lt.mp fun z => c (.inl z))
  refine A8x (AAe (AAc rfl) (AAe (AAc rfl) (AAe (AAc rfl) AAs))) fun m dx hm hdx ne => ?_
  have s1 : Same H (upd (upd H dx (.own m)) m (.ins C dx [])) := (ABm hdx).trans (ABm (by rw [ABi ne.symm]; exact hm))
  refine ⟨m, dx, sa, pa, da, st, ps, ds, rfl, AAv, AQk s1 hs.sq, AQk s1 hpa, AQk s1 hda, hl, hw, len, hps, hds, fun B H1 hM1 => ⟨rfl, ?_⟩⟩
  have e15 : rg (stM st (memL ps ds)) 15 = st.getD 15 0 := by
    show (st.take 16).getD 15 0 = _
    rw [List.getD_eq_getElem?_getD, List.getElem?_take_of_lt (by decide), List.getD_eq_getElem?_getD]
  refine ARa (AAe (AAc rfl) (AAe (AAc rfl) AAs)) ⟨m, B, stM st (memL ps ds), _, rfl, rfl, hM1, j, rfl, rfl, by rw [e15]; exact d.2.1, fun M' f1 f2 f3 => ?_⟩
  intro H2 c2 hM2
  refine BA5 rfl rfl hM2 fun l H' h => k l H' ?_
  rw [h, BAu hM2.len f1 f2 f3]
  rfl
end
end Chip
namespace Chip
open PySem L2 LX PyProof.Rows
theorem ANk {ns : List Int} (h : ∀ x ∈ ns, 0 ≤ x) : ns.map V.int = (ns.map Int.toNat).map vN := by
  rw [List.map_map]
  refine List.map_congr_left fun x hx => ?_
  show V.int x = V.int ((x.toNat : Nat) : Int)
  rw [Int.toNat_of_nonneg (h x hx)]
theorem AZs {ns : List Int} (h : ∀ x ∈ ns, 0 ≤ x) : ARw (ns.map Int.toNat) = ns := by
  unfold ARw
  rw [List.map_map]
  conv => rhs; rw [← List.map_id ns]
  refine List.map_congr_left fun x hx => ?_
  exact Int.toNat_of_nonneg (h x hx)
theorem AU8 {ns : List Int} {lo hi : Int} {n : Nat} (h : ∀ x ∈ ns, lo ≤ x ∧ x ≤ hi) (h0 : 0 ≤ lo) (hn : hi < n) : ∀ x ∈ ns.map Int.toNat, x < n := fun x hx => by
  obtain ⟨y, hy, rfl⟩ := List.mem_map.mp hx
  have := h y hy
  omega
theorem A3b (ps ds : List Int) : (Sd12Neutral.memOf ps ds).toList = memL (ps.map Int.toNat) (ds.map Int.toNat) := by
  unfold Sd12Neutral.memOf memL
  have z : ∀ (l : List (Int × Int)) (m : Array Nat), (l.foldl (fun (l : Array Nat) (x : Int × Int) => l.setIfInBounds x.1.toNat x.2.toNat) m).toList = (l.map fun x => (x.1.toNat, x.2.toNat)).foldl (fun m x => m.set x.1 x.2) m.toList := by
    intro l
    induction l with
    | nil => intro m; rfl
    | cons x l ih =>
      intro m
      rw [List.foldl_cons, ih, List.map_cons, List.foldl_cons, Array.toList_setIfInBounds]
  rw [z, Array.toList_replicate]
  congr 1
  rw [List.zip_map]
  rfl
theorem A4s (m : Array Nat) (a : Nat) : m.getD a 0 = m.toList.getD a 0 := by
  rw [Array.getD_eq_getD_getElem?, List.getD_eq_getElem?_getD, Array.getElem?_toList]
theorem A78 (st mem : List Nat) (h : st.length = 18) : (⟨st.take 16, Sd12.bit (st.getD 16 0) 3, Sd12.bit (st.getD 16 0) 2, Sd12.bit (st.getD 16 0) 1, Sd12.bit (st.getD 16 0) 0, fun a => mem.getD a 0⟩ : Sd12.St) = stOf (stM st mem) (rg (stM st mem) 15) := by
  have e : (st.take 16).set 15 ((st.take 16).getD 15 0) = st.take 16 := AVq (by rw [List.length_take, h]; decide)
  show _ = (⟨(st.take 16).set 15 ((st.take 16).getD 15 0), _, _, _, _, _⟩ : Sd12.St)
  rw [e]
  rfl
theorem AR5 (n : Int) (s p b : List Int) : PySd12.run n s p b = if n < 0 ∨ (Sd12.MOST : Int) < n then -1 :: s else (match Sd12.read [] (s.map Int.toNat) with
      | none => -2 :: s
      | some t => (((Sd12.run n.toNat 0 { t with mem := fun (a : Nat) => (Sd12Neutral.memOf p b).getD a 0 }).2.1 : Nat) : Int) :: (Sd12Neutral.ints ((Sd12.run n.toNat 0 { t with mem := fun (a : Nat) => (Sd12Neutral.memOf p b).getD a 0 }).1.r ++ [Sd12.flags (Sd12.run n.toNat 0 { t with mem := fun (a : Nat) => (Sd12Neutral.memOf p b).getD a 0 }).1, (Sd12.run n.toNat 0 { t with mem := fun (a : Nat) => (Sd12Neutral.memOf p b).getD a 0 }).2.2.1 + 256 * (Sd12.run n.toNat 0 { t with mem := fun (a : Nat) => (Sd12Neutral.memOf p b).getD a 0 }).2.2.2]) ++ ((List.range Sd12.SIZE).filter fun (a : Nat) => (Sd12.run n.toNat 0 { t with mem := fun (a : Nat) => (Sd12Neutral.memOf p b).getD a 0 }).1.mem a != (Sd12Neutral.memOf p b).getD a 0).flatMap fun (a : Nat) => [(a : Int), ((Sd12.run n.toNat 0 { t with mem := fun (a : Nat) => (Sd12Neutral.memOf p b).getD a 0 }).1.mem a : Int)])) := rfl
theorem AWi (l : List Nat) (f : Nat → Nat) : (l.flatMap fun (a : Nat) => [(a : Int), (f a : Int)]) = ARw (l.flatMap fun a => [a, f a]) := by
  unfold ARw
  rw [List.map_flatMap]
  rfl
theorem run_eq {n : Int} {s p b : List Int} (hs : ∀ x ∈ s, 0 ≤ x) (hl : s.length = 18) : PySd12.run n s p b = runL n (s.map Int.toNat) (memL (p.map Int.toNat) (b.map Int.toNat)) := by
  have hm : ∀ a, (Sd12Neutral.memOf p b).getD a 0 = (memL (p.map Int.toNat) (b.map Int.toNat)).getD a 0 := fun a => by rw [A4s, A3b]
  rw [AR5]
  unfold runL
  have eM : ((Sd12.MOST : Nat) : Int) = 16777216 := rfl
  rw [eM, AZs hs]
  by_cases c : n < 0 ∨ 16777216 < n
  · rw [if_pos c, if_pos c]
  rw [if_neg c, if_neg c]
  have er : Sd12.read [] (s.map Int.toNat) = if (s.map Int.toNat).getD 13 0 % 4 = 0 ∧ (s.map Int.toNat).getD 15 0 % 2 = 0 ∧ (s.map Int.toNat).getD 16 0 < 16 then some ⟨(s.map Int.toNat).take 16, Sd12.bit ((s.map Int.toNat).getD 16 0) 3, Sd12.bit ((s.map Int.toNat).getD 16 0) 2, Sd12.bit ((s.map Int.toNat).getD 16 0) 1, Sd12.bit ((s.map Int.toNat).getD 16 0) 0, fun a => ([] : List Nat).getD a 0⟩ else none := rfl
  rw [er]
  by_cases d : (s.map Int.toNat).getD 13 0 % 4 = 0 ∧ (s.map Int.toNat).getD 15 0 % 2 = 0 ∧ (s.map Int.toNat).getD 16 0 < 16
  · rw [if_pos d, if_pos d]
    have z := A78 (s.map Int.toNat) (memL (p.map Int.toNat) (b.map Int.toNat)) (by rw [List.length_map]; exact hl)
    simp only [hm]
    rw [← z, places_eq, AWi]
    rfl
  · rw [if_neg d, if_neg d]
end Chip
namespace Chip
open PySem L2 LX PyProof.Rows
theorem A3q {q : Program} {loose : List Str} {XP : (Str → Option Value) → Heap → Prop} {YP : World → Heap → Prop} {d : PySem.DefRec} {K : Params → Frag} (hname : d.name = "run")
    (hY : ∀ (w : World) (h : Heap), YP w h → (K w.params).In h) (F : ∀ (w : World) (mg : Str → Option Value) (h : Heap), (K w.params).In h → h.Ns mainGlobals mg → Txt (K w.params) mg ∧ ∃ C fi fd, Cl (K w.params) C ∧ TxC (K w.params) mg C fi fd) :
    PySem.W.WalkOS q loose XP YP PySem.Challenge.rw_lesserchip_s01_run d [] (fun f vs => PySem.call f vs) := by
  intro w s₀ s₁ mg mb G Y fa o pm cd doc dV kV ho hd hcd hD hmg hg args vals as hpre hlay hrd hwl hlo
  have KX := hY w _ Y
  obtain ⟨T, C, fi, fd, cl, TC⟩ := F w mg _ KX G.T.g
  rw [hname] at hmg
  obtain ⟨a, e, ask⟩ := PySem.W.os_pre_some hpre
  have e0 : PySem.W.Codec.decAll [.int (-2147483648) 2147483647, .list 18 18 (.int 0 4294967295), .list 0 60000 (.int 0 65535), .list 0 60000 (.int 0 255)] args = some a := e
  obtain ⟨d1, ds1, rfl, c1, e1⟩ := dec2 e0
  obtain ⟨d0, ds0, rfl, c0, e1⟩ := dec2 e1
  obtain ⟨d2, ds2, rfl, c2, e2⟩ := dec2 e1
  obtain ⟨d3, ds3, rfl, c3, e3⟩ := dec2 e2
  obtain rfl := A6e e3
  obtain ⟨rfl, n1, n2⟩ := A9x c1
  obtain ⟨rfl, q0, q1, q2⟩ := AQq c0
  obtain ⟨rfl, _, p1, p2⟩ := AQq c2
  obtain ⟨rfl, _, b1, b2⟩ := AQq c3
  obtain ⟨n, ss, ps, ds, ⟨⟩⟩ := a
  have ask : PySd12.run_asked n ss ps ds = true := ask
  have hlen : ps.length = ds.length := by
    have ask : (Sd12Neutral.whole32 n && ((ss.all (fun (z : Int) => Sd12Neutral.natural z 32) && Sd12Neutral.long ss 18 18 18) && ((ps.all (fun (z : Int) => Sd12Neutral.natural z 16) && decide (ps.length ≤ 65536)) && (ds.all (fun (z : Int) => Sd12Neutral.natural z 8) && Sd12Neutral.long ds ps.length 0 65536)))) = true := ask
    have a1 := (Bool.and_eq_true_iff.mp (Bool.and_eq_true_iff.mp ask).2).2
    have a2 := of_decide_eq_true (Bool.and_eq_true_iff.mp (Bool.and_eq_true_iff.mp a1).1).2
    have z : (ds.length : Int) = if (0 : Int) ≤ (ps.length : Int) ∧ (ps.length : Int) ≤ 65536 then (ps.length : Int) else 0 := of_decide_eq_true (Bool.and_eq_true_iff.mp (Bool.and_eq_true_iff.mp a1).2).2
    rw [if_pos ⟨Int.natCast_nonneg _, Int.ofNat_le.mpr a2⟩] at z
    exact (Int.natCast_inj.mp z).symm
  have hl18 : ss.length = 18 := Nat.le_antisymm q1 q0
  cases hwl with
  | cons w1 hwl =>
    cases hwl with
    | cons w0 hwl =>
      cases hwl with
      | cons w2 hwl =>
        cases hwl with
        | cons w3 hwl =>
          cases hwl
          obtain ⟨t, rfl⟩ := A3h w1
          obtain ⟨sa, rfl, hsa⟩ := ANq w0 (Nat.le_trans q1 (by decide))
          obtain ⟨pa, rfl, hpa⟩ := ANq w2 (Nat.le_trans p1 (by decide))
          obtain ⟨da, rfl, hda⟩ := ANq w3 (Nat.le_trans b1 (by decide))
          have q2 : ∀ x ∈ ss, 0 ≤ x ∧ x ≤ 4294967295 := q2
          have p2 : ∀ x ∈ ps, 0 ≤ x ∧ x ≤ 65535 := p2
          have b2 : ∀ x ∈ ds, 0 ≤ x ∧ x ≤ 255 := b2
          refine PySem.W.enter_call (codeAny_mono (A8g (out := PySd12.run n ss ps ds) (L := [sa, pa, da]) (vs := [.int n, .ref sa, .ref pa, .ref da]) KX G.T.g G.T.b G.T.builtins G.T.nolimit hg (k := 7) ⟨rfl, by decide, by decide⟩ (fun a ha => ?_) (fun base _ _ => BCc (P := _) (w := w) (base := base) T cl TC) hmg rfl (.cons ⟨t, rfl⟩ (.cons rfl (.cons rfl (.cons rfl .nil)))) ?_) fun r s' hq => AYe hq ?_)
          · rcases List.mem_cons.mp ha with z | z
            · exact ⟨_, z ▸ hsa⟩
            · rcases List.mem_cons.mp z with z | z
              · exact ⟨_, z ▸ hpa⟩
              · exact ⟨_, (List.mem_singleton.mp z) ▸ hda⟩
          · have sS : LstAt (K w.params) (given (K w.params) s₁.heap [sa, pa, da]) sa ((ss.map Int.toNat).map vN) := by
              rw [← ANk fun x hx => (q2 x hx).1]
              exact ALf KX (by simp) hsa
            have sA : SqL (K w.params) (given (K w.params) s₁.heap [sa, pa, da]) pa ((ps.map Int.toNat).map vN) := by
              rw [← ANk fun x hx => (p2 x hx).1]
              exact (ALf KX (by simp) hpa).sq
            have sB : SqL (K w.params) (given (K w.params) s₁.heap [sa, pa, da]) da ((ds.map Int.toNat).map vN) := by
              rw [← ANk fun x hx => (b2 x hx).1]
              exact (ALf KX (by simp) hda).sq
            refine ⟨n, sa, pa, da, _, _, _, rfl, sS, sA, sB, by rw [List.length_map]; exact hl18, AU8 q2 (by decide) (by decide), by rw [List.length_map, List.length_map]; exact hlen, AU8 p2 (by decide) (by decide), AU8 b2 (by decide) (by decide), fun l H' hl => ⟨l, rfl, hl.trans ?_⟩⟩
            rw [← run_eq (fun x hx => (q2 x hx).1) hl18]
          · exact PySem.W.os_post e (PySem.W.same_self _)
end Chip
namespace Chip
open PySem L2 LX PyProof.Rows HR
theorem A7q {K : Frag} {a : Addr} {es : Array DictEntry} {n : Nat} {D : List (Str × V)} (l : K.lookup a = some ⟨.type "dict", none, .dict es n, #[]⟩) (s : (a == sysModules) = false) (r : KTD.Rows RelV es.toList D) : TabK K a D :=
  ⟨s, _, es, n, l, ⟨rfl, rfl, rfl⟩, rfl, r⟩
theorem fR {p : Params} {h : Heap} {mg : Str → Option Value} (X : (KR p).In h) (G : h.Ns mainGlobals mg) {x : Str} {st : Stmt} (f c : Addr) (md : Value) (e1 : nsIn (KR p) mainGlobals x = some (some (.ref f)) := by kernel_rfl) (e2 : (KR p).lookup f = some ⟨.type "function", none, .func (fnOf x x (AEi st) (ACy st) (AAb st) .none .none .none md none (.ref c) .none), #[]⟩ := by kernel_rfl)
    (e3 : codeIn (KR p) (.ref c) x = true := by kernel_rfl) (e4 : keepIn (KR p) (.ref f) = true := by kernel_rfl) : Def (KR p) mg x st := BBl X G e1 e2 e3 e4
theorem kV {p : Params} {h : Heap} {mg : Str → Option Value} (X : (KR p).In h) (G : h.Ns mainGlobals mg) {x : Str} {v : Value} (e : nsIn (KR p) mainGlobals x = some (some v) := by kernel_rfl) : mg x = some v := PySem.W.mg_of X G e
theorem kN {p : Params} {h : Heap} {mg : Str → Option Value} (X : (KR p).In h) (G : h.Ns mainGlobals mg) {x : Str} (e : nsIn (KR p) mainGlobals x = some none := by kernel_rfl) : mg x = none := PySem.W.mg_none_of X G e
noncomputable abbrev md0 : Value := .str "lesserchip.machine" 187
noncomputable abbrev md1 : Value := .str "lesserchip.bits" 331
noncomputable abbrev md2 : Value := .str "lesserchip.arithmetic" 666
noncomputable abbrev md3 : Value := .str "lesserchip.doing" 753
noncomputable abbrev md4 : Value := .str "lesserchip.core" 1499
theorem A0y (p : Params) : ∀ ks : List (Str × Nat × Addr), KTD.Rows RelV (ks.map fun x => en p x.1 x.2.1 (.ref x.2.2)) (ks.map fun x => (x.1, V.ref x.2.2))
  | [] => .nil
  | x :: r => .cons rfl rfl (A0y p r)
theorem t_99 (p : Params) : TupK (KR p) [] 99 := ACl (od := none) (its := ([] : List Value).toArray) (n := 0) (sl := #[]) (by kernel_rfl) rfl (by decide)
theorem t_100 (p : Params) : TupK (KR p) [.str "none", .non, .non, .non, .int 0, .ref 99] 100 := ACl (od := none) (its := ([.str "none" 333, .none, .none, .none, .int ((0 : Nat) : Int) 334, .ref 99] : List Value).toArray) (n := 0) (sl := #[]) (by kernel_rfl) rfl (by decide)
theorem t_101 (p : Params) : TupK (KR p) [] 101 := ACl (od := none) (its := ([] : List Value).toArray) (n := 0) (sl := #[]) (by kernel_rfl) rfl (by decide)
theorem t_102 (p : Params) : TupK (KR p) [.str "second"] 102 := ACl (od := none) (its := ([.str "second" 339] : List Value).toArray) (n := 0) (sl := #[]) (by kernel_rfl) rfl (by decide)
theorem t_103 (p : Params) : TupK (KR p) [.str "d", .str "second"] 103 := ACl (od := none) (its := ([.str "d" 341, .str "second" 342] : List Value).toArray) (n := 0) (sl := #[]) (by kernel_rfl) rfl (by decide)
theorem t_104 (p : Params) : TupK (KR p) [.str "d", .str "second", .str "zero"] 104 := ACl (od := none) (its := ([.str "d" 344, .str "second" 345, .str "zero" 346] : List Value).toArray) (n := 0) (sl := #[]) (by kernel_rfl) rfl (by decide)
theorem t_105 (p : Params) : TupK (KR p) [.str "d", .str "n", .str "second"] 105 := ACl (od := none) (its := ([.str "d" 348, .str "n" 349, .str "second" 350] : List Value).toArray) (n := 0) (sl := #[]) (by kernel_rfl) rfl (by decide)
theorem t_106 (p : Params) : TupK (KR p) [.str "d", .str "place"] 106 := ACl (od := none) (its := ([.str "d" 352, .str "place" 353] : List Value).toArray) (n := 0) (sl := #[]) (by kernel_rfl) rfl (by decide)
theorem t_107 (p : Params) : TupK (KR p) [.str "list"] 107 := ACl (od := none) (its := ([.str "list" 355] : List Value).toArray) (n := 0) (sl := #[]) (by kernel_rfl) rfl (by decide)
theorem t_108 (p : Params) : TupK (KR p) [.str "base", .str "list"] 108 := ACl (od := none) (its := ([.str "base" 357, .str "list" 358] : List Value).toArray) (n := 0) (sl := #[]) (by kernel_rfl) rfl (by decide)
theorem t_109 (p : Params) : TupK (KR p) [.str "target"] 109 := ACl (od := none) (its := ([.str "target" 360] : List Value).toArray) (n := 0) (sl := #[]) (by kernel_rfl) rfl (by decide)
theorem t_110 (p : Params) : TupK (KR p) [.str "lsls", .str "lsrs", .str "asrs"] 110 := ACl (od := none) (its := ([.str "lsls" 362, .str "lsrs" 363, .str "asrs" 364] : List Value).toArray) (n := 0) (sl := #[]) (by kernel_rfl) rfl (by decide)
theorem t_111 (p : Params) : TupK (KR p) [.str "movs", .str "cmp", .str "adds", .str "subs"] 111 := ACl (od := none) (its := ([.str "movs" 366, .str "cmp" 367, .str "adds" 368, .str "subs" 369] : List Value).toArray) (n := 0) (sl := #[]) (by kernel_rfl) rfl (by decide)
theorem t_112 (p : Params) : TupK (KR p) [.str "ands", .str "eors", .str "lsls", .str "lsrs", .str "asrs", .str "adcs", .str "sbcs", .str "rors", .str "tst", .str "rsbs", .str "cmp", .str "cmn", .str "orrs", .str "muls", .str "bics", .str "mvns"] 112 := ACl (od := none) (its := ([.str "ands" 371, .str "eors" 372, .str "lsls" 373, .str "lsrs" 374, .str "asrs" 375, .str "adcs" 376, .str "sbcs" 377, .str "rors" 378, .str "tst" 379, .str "rsbs" 380, .str "cmp" 381, .str "cmn" 382, .str "orrs" 383, .str "muls" 384, .str "bics" 385, .str "mvns" 386] : List Value).toArray) (n := 0) (sl := #[]) (by kernel_rfl) rfl (by decide)
theorem t_113 (p : Params) : TupK (KR p) [.str "add", .str "cmp", .str "mov"] 113 := ACl (od := none) (its := ([.str "add" 388, .str "cmp" 389, .str "mov" 390] : List Value).toArray) (n := 0) (sl := #[]) (by kernel_rfl) rfl (by decide)
theorem t_114 (p : Params) : TupK (KR p) [.str "str", .str "strh", .str "strb", .str "ldrsb", .str "ldr", .str "ldrh", .str "ldrb", .str "ldrsh"] 114 := ACl (od := none) (its := ([.str "str" 392, .str "strh" 393, .str "strb" 394, .str "ldrsb" 395, .str "ldr" 396, .str "ldrh" 397, .str "ldrb" 398, .str "ldrsh" 399] : List Value).toArray) (n := 0) (sl := #[]) (by kernel_rfl) rfl (by decide)
theorem t_115 (p : Params) : TupK (KR p) [.str "str", .int 4] 115 := ACl (od := none) (its := ([.str "str" 401, .int ((4 : Nat) : Int) 402] : List Value).toArray) (n := 0) (sl := #[]) (by kernel_rfl) rfl (by decide)
theorem t_116 (p : Params) : TupK (KR p) [.str "ldr", .int 4] 116 := ACl (od := none) (its := ([.str "ldr" 403, .int ((4 : Nat) : Int) 404] : List Value).toArray) (n := 0) (sl := #[]) (by kernel_rfl) rfl (by decide)
theorem t_117 (p : Params) : TupK (KR p) [.str "strb", .int 1] 117 := ACl (od := none) (its := ([.str "strb" 405, .int ((1 : Nat) : Int) 406] : List Value).toArray) (n := 0) (sl := #[]) (by kernel_rfl) rfl (by decide)
theorem t_118 (p : Params) : TupK (KR p) [.str "ldrb", .int 1] 118 := ACl (od := none) (its := ([.str "ldrb" 407, .int ((1 : Nat) : Int) 408] : List Value).toArray) (n := 0) (sl := #[]) (by kernel_rfl) rfl (by decide)
theorem t_119 (p : Params) : TupK (KR p) [.str "strh", .int 2] 119 := ACl (od := none) (its := ([.str "strh" 409, .int ((2 : Nat) : Int) 410] : List Value).toArray) (n := 0) (sl := #[]) (by kernel_rfl) rfl (by decide)
theorem t_120 (p : Params) : TupK (KR p) [.str "ldrh", .int 2] 120 := ACl (od := none) (its := ([.str "ldrh" 411, .int ((2 : Nat) : Int) 412] : List Value).toArray) (n := 0) (sl := #[]) (by kernel_rfl) rfl (by decide)
theorem t_121 (p : Params) : TupK (KR p) [.ref 115, .ref 116, .ref 117, .ref 118, .ref 119, .ref 120] 121 := ACl (od := none) (its := ([.ref 115, .ref 116, .ref 117, .ref 118, .ref 119, .ref 120] : List Value).toArray) (n := 0) (sl := #[]) (by kernel_rfl) rfl (by decide)
theorem t_122 (p : Params) : TupK (KR p) [.str "sxth", .str "sxtb", .str "uxth", .str "uxtb"] 122 := ACl (od := none) (its := ([.str "sxth" 414, .str "sxtb" 415, .str "uxth" 416, .str "uxtb" 417] : List Value).toArray) (n := 0) (sl := #[]) (by kernel_rfl) rfl (by decide)
theorem t_123 (p : Params) : TupK (KR p) [.str "rev", .str "rev16", .str "none", .str "revsh"] 123 := ACl (od := none) (its := ([.str "rev" 419, .str "rev16" 420, .str "none" 421, .str "revsh" 422] : List Value).toArray) (n := 0) (sl := #[]) (by kernel_rfl) rfl (by decide)
theorem t_269 (p : Params) : TupK (KR p) (([221, 130, 228, 130, 247, 247, 130, 130, 130, 130, 235, 130, 254, 254, 261, 268] : List Addr).map V.ref) 269 := ACl (od := none) (its := (([221, 130, 228, 130, 247, 247, 130, 130, 130, 130, 235, 130, 254, 254, 261, 268] : List Addr).map Value.ref).toArray) (n := 0) (sl := #[]) (by kernel_rfl) rfl (by decide)
theorem t_319 (p : Params) : TupK (KR p) (((([137, 137, 137, 144, 151, 151, 151, 151, 158, 179, 186, 186, 193, 193, 193, 193] : List Addr) ++ ([193, 193, 200, 200, 207, 214, 276, 276, 283, 290, 297, 297, 304, 130, 130, 130] : List Addr)) : List Addr).map V.ref) 319 := ACl (od := none) (its := (((([137, 137, 137, 144, 151, 151, 151, 151, 158, 179, 186, 186, 193, 193, 193, 193] : List Addr) ++ ([193, 193, 200, 200, 207, 214, 276, 276, 283, 290, 297, 297, 304, 130, 130, 130] : List Addr)) : List Addr).map Value.ref).toArray) (n := 0) (sl := #[]) (by kernel_rfl) rfl (by decide)
noncomputable def dks : List (Str × Nat × Addr) := (([("movs", 1382, 403), ("mvns", 1384, 410), ("ands", 1386, 417), ("tst", 1388, 424), ("bics", 1390, 431), ("orrs", 1392, 438), ("eors", 1394, 445), ("muls", 1396, 452), ("lsls", 1398, 459), ("lsrs", 1400, 466), ("asrs", 1402, 473), ("rors", 1404, 480), ("adds", 1406, 487), ("adcs", 1408, 494), ("cmn", 1410, 501), ("subs", 1412, 508)] : List (Str × Nat × Addr)) ++ ([("sbcs", 1414, 515), ("rsbs", 1416, 522), ("cmp", 1418, 529), ("add", 1420, 536), ("sub", 1422, 543), ("add_pc", 1424, 550), ("mov", 1426, 557), ("sxth", 1428, 564), ("sxtb", 1430, 571), ("uxth", 1432, 578), ("uxtb", 1434, 585), ("rev", 1436, 599), ("rev16", 1438, 606), ("revsh", 1440, 613), ("str", 1442, 634), ("strh", 1444, 641)] : List (Str × Nat × Addr)) ++ ([("strb", 1446, 648), ("ldr", 1448, 676), ("ldr_pc", 1450, 683), ("ldrh", 1452, 690), ("ldrsh", 1454, 697), ("ldrb", 1456, 704), ("ldrsb", 1458, 711), ("push", 1460, 739), ("pop", 1462, 746), ("stm", 1464, 753), ("ldm", 1466, 760), ("bx", 1468, 774), ("blx", 1470, 781), ("b", 1472, 788), ("b_if", 1474, 795), ("bl", 1476, 802)] : List (Str × Nat × Addr)) ++ ([("barrier", 1478, 809), ("nop", 1480, 816), ("bkpt", 1482, 823), ("svc", 1484, 830), ("none", 1485, 837)] : List (Str × Nat × Addr)))
noncomputable def dfs : List Addr := (([403, 410, 417, 424, 431, 438, 445, 452, 459, 466, 473, 480, 487, 494, 501, 508] : List Addr) ++ ([515, 522, 529, 536, 543, 550, 557, 564, 571, 578, 585, 599, 606, 613, 634, 641] : List Addr) ++ ([648, 676, 683, 690, 697, 704, 711, 739, 746, 753, 760, 774, 781, 788, 795, 802] : List Addr) ++ ([809, 816, 823, 830, 837] : List Addr))
theorem t_838 (p : Params) : TabK (KR p) 838 (dks.map fun x => (x.1, V.ref x.2.2)) := A7q (es := (dks.map fun x => en p x.1 x.2.1 (.ref x.2.2)).toArray) (n := 53) (by kernel_rfl) rfl (A0y p dks)
theorem A8p (p : Params) {h : Heap} {mg : Str → Option Value} (X : (KR p).In h) (G : h.Ns mainGlobals mg) : Txt (KR p) mg :=
  ⟨kN X G,
    kN X G,
    kN X G,
    kN X G,
    kN X G,
    ⟨189, kV X G⟩,
    ⟨191, kV X G⟩,
    ⟨193, kV X G⟩,
    ⟨195, kV X G⟩,
    ⟨197, kV X G⟩,
    ⟨199, kV X G⟩,
    ⟨201, kV X G⟩,
    ⟨203, kV X G⟩,
    ⟨205, kV X G⟩,
    ⟨207, kV X G⟩,
    ⟨209, kV X G⟩,
    ⟨100, kV X G, _, t_100 p, t_99 p⟩,
    ⟨336, kV X G⟩,
    ⟨101, kV X G, t_101 p⟩,
    ⟨102, kV X G, t_102 p⟩,
    ⟨103, kV X G, t_103 p⟩,
    ⟨104, kV X G, t_104 p⟩,
    ⟨105, kV X G, t_105 p⟩,
    ⟨106, kV X G, t_106 p⟩,
    ⟨107, kV X G, t_107 p⟩,
    ⟨108, kV X G, t_108 p⟩,
    ⟨109, kV X G, t_109 p⟩,
    ⟨110, kV X G, t_110 p⟩,
    ⟨111, kV X G, t_111 p⟩,
    ⟨112, kV X G, t_112 p⟩,
    ⟨113, kV X G, t_113 p⟩,
    ⟨114, kV X G, t_114 p⟩,
    ⟨121, kV X G, _, _, _, _, _, _, t_121 p, t_115 p, t_116 p, t_117 p, t_118 p, t_119 p, t_120 p⟩,
    ⟨122, kV X G, t_122 p⟩,
    ⟨123, kV X G, t_123 p⟩,
    ⟨269, kV X G, [221, 130, 228, 130, 247, 247, 130, 130, 130, 130, 235, 130, 254, 254, 261, 268], t_269 p, .cons (kV X G) <| .cons (kV X G) <| .cons (kV X G) <| .cons (kV X G) <| .cons (kV X G) <| .cons (kV X G) <| .cons (kV X G) <| .cons (kV X G) <| .cons (kV X G) <| .cons (kV X G) <| .cons (kV X G) <| .cons (kV X G) <| .cons (kV X G) <| .cons (kV X G) <| .cons (kV X G) <| .cons (kV X G) <| .nil⟩,
    ⟨319, kV X G, (([137, 137, 137, 144, 151, 151, 151, 151, 158, 179, 186, 186, 193, 193, 193, 193] : List Addr) ++ ([193, 193, 200, 200, 207, 214, 276, 276, 283, 290, 297, 297, 304, 130, 130, 130] : List Addr)), t_319 p, .cons (kV X G) <| .cons (kV X G) <| .cons (kV X G) <| .cons (kV X G) <| .cons (kV X G) <| .cons (kV X G) <| .cons (kV X G) <| .cons (kV X G) <| .cons (kV X G) <| .cons (kV X G) <| .cons (kV X G) <| .cons (kV X G) <| .cons (kV X G) <| .cons (kV X G) <| .cons (kV X G) <| .cons (kV X G) <| .cons (kV X G) <| .cons (kV X G) <| .cons (kV X G) <| .cons (kV X G) <| .cons (kV X G) <| .cons (kV X G) <| .cons (kV X G) <| .cons (kV X G) <| .cons (kV X G) <| .cons (kV X G) <| .cons (kV X G) <| .cons (kV X G) <| .cons (kV X G) <| .cons (kV X G) <| .cons (kV X G) <| .cons (kV X G) <| .nil⟩,
    ⟨838, kV X G, dfs, t_838 p, .cons (kV X G) <| .cons (kV X G) <| .cons (kV X G) <| .cons (kV X G) <| .cons (kV X G) <| .cons (kV X G) <| .cons (kV X G) <| .cons (kV X G) <| .cons (kV X G) <| .cons (kV X G) <| .cons (kV X G) <| .cons (kV X G) <| .cons (kV X G) <| .cons (kV X G) <| .cons (kV X G) <| .cons (kV X G) <| .cons (kV X G) <| .cons (kV X G) <| .cons (kV X G) <| .cons (kV X G) <| .cons (kV X G) <| .cons (kV X G) <| .cons (kV X G) <| .cons (kV X G) <| .cons (kV X G) <| .cons (kV X G) <| .cons (kV X G) <| .cons (kV X G) <| .cons (kV X G) <| .cons (kV X G) <| .cons (kV X G) <| .cons (kV X G) <| .cons (kV X G) <| .cons (kV X G) <| .cons (kV X G) <| .cons (kV X G) <| .cons (kV X G) <| .cons (kV X G) <| .cons (kV X G) <| .cons (kV X G) <| .cons (kV X G) <| .cons (kV X G) <| .cons (kV X G) <| .cons (kV X G) <| .cons (kV X G) <| .cons (kV X G) <| .cons (kV X G) <| .cons (kV X G) <| .cons (kV X G) <| .cons (kV X G) <| .cons (kV X G) <| .cons (kV X G) <| .cons (kV X G) <| .nil⟩,
    ⟨1501, kV X G⟩,
    fR X G 42 41 md0,
    fR X G 49 48 md0,
    fR X G 56 55 md0,
    fR X G 63 62 md0,
    fR X G 70 69 md0,
    fR X G 77 76 md0,
    fR X G 84 83 md0,
    fR X G 91 90 md0,
    fR X G 98 97 md0,
    fR X G 130 129 md1,
    fR X G 137 136 md1,
    fR X G 144 143 md1,
    fR X G 151 150 md1,
    fR X G 158 157 md1,
    fR X G 165 164 md1,
    fR X G 172 171 md1,
    fR X G 179 178 md1,
    fR X G 186 185 md1,
    fR X G 193 192 md1,
    fR X G 200 199 md1,
    fR X G 207 206 md1,
    fR X G 214 213 md1,
    fR X G 221 220 md1,
    fR X G 228 227 md1,
    fR X G 235 234 md1,
    fR X G 240 239 md1,
    fR X G 247 246 md1,
    fR X G 254 253 md1,
    fR X G 261 260 md1,
    fR X G 268 267 md1,
    fR X G 276 275 md1,
    fR X G 283 282 md1,
    fR X G 290 289 md1,
    fR X G 297 296 md1,
    fR X G 304 303 md1,
    fR X G 311 310 md1,
    fR X G 318 317 md1,
    fR X G 326 325 md1,
    fR X G 333 332 md1,
    fR X G 340 339 md2,
    fR X G 347 346 md2,
    fR X G 354 353 md2,
    fR X G 361 360 md2,
    fR X G 368 367 md2,
    fR X G 375 374 md2,
    fR X G 382 381 md2,
    fR X G 389 388 md2,
    fR X G 396 395 md2,
    fR X G 403 402 md3,
    fR X G 410 409 md3,
    fR X G 417 416 md3,
    fR X G 424 423 md3,
    fR X G 431 430 md3,
    fR X G 438 437 md3,
    fR X G 445 444 md3,
    fR X G 452 451 md3,
    fR X G 459 458 md3,
    fR X G 466 465 md3,
    fR X G 473 472 md3,
    fR X G 480 479 md3,
    fR X G 487 486 md3,
    fR X G 494 493 md3,
    fR X G 501 500 md3,
    fR X G 508 507 md3,
    fR X G 515 514 md3,
    fR X G 522 521 md3,
    fR X G 529 528 md3,
    fR X G 536 535 md3,
    fR X G 543 542 md3,
    fR X G 550 549 md3,
    fR X G 557 556 md3,
    fR X G 564 563 md3,
    fR X G 571 570 md3,
    fR X G 578 577 md3,
    fR X G 585 584 md3,
    fR X G 592 591 md3,
    fR X G 599 598 md3,
    fR X G 606 605 md3,
    fR X G 613 612 md3,
    fR X G 620 619 md3,
    fR X G 627 626 md3,
    fR X G 634 633 md3,
    fR X G 641 640 md3,
    fR X G 648 647 md3,
    fR X G 655 654 md3,
    fR X G 662 661 md3,
    fR X G 669 668 md3,
    fR X G 676 675 md3,
    fR X G 683 682 md3,
    fR X G 690 689 md3,
    fR X G 697 696 md3,
    fR X G 704 703 md3,
    fR X G 711 710 md3,
    fR X G 718 717 md3,
    fR X G 725 724 md3,
    fR X G 732 731 md3,
    fR X G 739 738 md3,
    fR X G 746 745 md3,
    fR X G 753 752 md3,
    fR X G 760 759 md3,
    fR X G 767 766 md3,
    fR X G 774 773 md3,
    fR X G 781 780 md3,
    fR X G 788 787 md3,
    fR X G 795 794 md3,
    fR X G 802 801 md3,
    fR X G 809 808 md3,
    fR X G 816 815 md3,
    fR X G 823 822 md3,
    fR X G 830 829 md3,
    fR X G 837 836 md3,
    fR X G 848 847 md3,
    fR X G 855 854 md4,
    fR X G 862 861 md4,
    fR X G 869 868 md4,
    fR X G 876 875 md4⟩
theorem A9k (p : Params) : Cl (KR p) 31 := ⟨⟨by kernel_rfl, by kernel_rfl, by kernel_rfl, by kernel_rfl⟩, by show findIn _ _ _ = _; kernel_rfl, by show findIn _ _ _ = _; kernel_rfl, by show findIn _ _ _ = _; kernel_rfl, by show findIn _ _ _ = _; kernel_rfl, by show findIn _ _ _ = _; kernel_rfl, by show findIn _ _ _ = _; kernel_rfl, by show findIn _ _ _ = _; kernel_rfl, by show findIn _ _ _ = _; kernel_rfl, by show findIn _ _ _ = _; kernel_rfl⟩
theorem A9m (p : Params) {h : Heap} {mg : Str → Option Value} (X : (KR p).In h) (G : h.Ns mainGlobals mg) : TxC (KR p) mg 31 28 (fnOf "__init__" "Machine.__init__" (AEi ASd) (ACy ASd) (AAb ASd) .none .none .none (.str "lesserchip.machine" 187) none (.ref 27) .none) :=
  ⟨⟨by kernel_rfl, by kernel_rfl, by kernel_rfl, by kernel_rfl⟩, kV X G, A9u (oc := .type "function") (od := none) (osl := #[]) (by kernel_rfl) (by kernel_rfl) (by kernel_rfl)⟩
end Chip
namespace HR
open PySem PySem.W PySem.Calls PyProof.Rows
theorem hcR : WalkOS QR lsR (XL QR []) (Hook.says HK) PySem.Challenge.rw_lesserchip_s01_run dR [] (fun f vs => PySem.call f vs) :=
  Chip.A3q (K := KR) rfl (fun w h Y => PySem.W.kIn_of Y) (fun w mg h KX G => ⟨Chip.A8p w.params KX G, 31, 28, _, Chip.A9k _, Chip.A9m _ KX G⟩)
end HR
namespace HR
open PySem PySem.W PySem.Calls PyProof.Rows
theorem finR : PySem.Challenge.rw_lesserchip_s01_run.Holds :=
  PySem.W.holds_os (q := QR) (loose := lsR) (Xt := XtR) (XP := XL QR []) (Yf := Hook.obs HK) (Ya := Hook.val HK) (YP := Hook.says HK) (d := dR) (kwd := []) (N := 12000)
    leftR (Hook.of HK) (Hook.keeps HK) (fun s e => xl_of s (Bool.and_eq_true_iff.mp e).1) XL.keeps hdefR hpR hkR
    (fun s e => recFacts_of (Bool.and_eq_true_iff.mp e).2) os_shapes k1R okR bareR hwR hcR
end HR
end Internal
theorem PySem.Challenge.cw_lesserchip_s01_run_holds : PySem.Challenge.rw_lesserchip_s01_run.Holds :=
  Internal.HR.finR
